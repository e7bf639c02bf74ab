"""What a value is, and whether one is as told."""

from numberpictures.utf8 import is_well_made

EMPTY = 0
NUMBER = 1
TEXT = 2
TRUTH = 3
ERROR = 4

# A number is held as so many 10^-12, below 10^36 of them on either side of 0.
DECIMALS = 12
ONE = 1000000000000
TOO_LARGE = 1000000000000000000000000000000000000

LONGEST_TEXT = 4096

ERROR_NAMES = ("#DIV/0!", "#VALUE!", "#REF!", "#NAME?", "#NUM!", "#N/A", "#RING!", "#ROOM!")


class WrongArgument(ValueError):
    """An argument isn't as told."""


def demand_value(value):
    """Raises WrongArgument if the value isn't as told."""
    if not is_value(value):
        raise WrongArgument("not a value")


def is_value(value):
    if value[0] == NUMBER:
        return is_number(value[1])
    if value[0] == TEXT:
        return is_text(value[2:])
    if value[0] == ERROR:
        return 1 <= value[1] <= len(ERROR_NAMES)
    return True


def is_number(number):
    return -TOO_LARGE < number < TOO_LARGE


def is_text(codes):
    return len(codes) <= LONGEST_TEXT and is_well_made(codes)
