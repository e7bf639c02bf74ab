"""Reads a section's condition and asks whether it holds of a number."""

from numberpictures.codes import MINUS, POINT, are_digits, begins_with, number_of, parted
from numberpictures.rounding import power

# The longer ones come first: < would else be taken out of <= and <>.
COMPARISONS = ("<=", ">=", "<>", "<", ">", "=")

MOST_DIGITS = 24
MOST_DECIMALS = 12


class Condition:
    """A comparison and what is compared with, held like a value's number as so many 10^-12."""

    def __init__(self, comparison, limit):
        self.comparison = comparison
        self.limit = limit


def read_condition(inner):
    """The condition that stands in brackets; None if it's something else."""
    for comparison in COMPARISONS:
        if begins_with(inner, 0, comparison):
            return read_limit(comparison, inner[len(comparison):])
    return None


def read_limit(comparison, codes):
    """The condition with this number: perhaps a minus, 1 to 24 digits, perhaps a point and 1 to 12 digits."""
    is_below = codes[:1] == [MINUS]
    parts = parted(codes[1:] if is_below else codes, POINT)
    if len(parts) > 2 or not are_digits(parts[0], 1, MOST_DIGITS):
        return None
    if len(parts) == 2 and not are_digits(parts[1], 1, MOST_DECIMALS):
        return None
    decimals = parts[1] if len(parts) == 2 else []
    limit = number_of(parts[0] + decimals) * power(10, MOST_DECIMALS - len(decimals))
    return Condition(comparison, -limit if is_below else limit)


def holds(condition, number):
    if condition.comparison == "<=":
        return number <= condition.limit
    if condition.comparison == ">=":
        return number >= condition.limit
    if condition.comparison == "<>":
        return number != condition.limit
    if condition.comparison == "<":
        return number < condition.limit
    if condition.comparison == ">":
        return number > condition.limit
    return number == condition.limit
