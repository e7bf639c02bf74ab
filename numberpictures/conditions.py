"""Reads a section's condition and asks whether it holds of a number."""

from numberpictures.codes import MINUS, POINT, begins_with, end_of_digits, number_of
from numberpictures.rounding import power

# The longer ones come first: < would else be taken out of <= and <>.
COMPARISONS = ("<=", ">=", "<>", "<", ">", "=")

MOST_DIGITS = 24
MOST_DECIMALS = 12


class Condition:
    """A comparison and what is compared with, held like a value's number as so many 10^-12."""

    def __init__(self, comparison, limit):
        self.comparison = comparison
        self.limit = limit


def read_condition(inner):
    """The condition that stands in brackets; None if it's something else."""
    for comparison in COMPARISONS:
        if begins_with(inner, 0, comparison):
            return read_limit(comparison, inner[len(comparison):])
    return None


def read_limit(comparison, codes):
    """The condition with this number: perhaps a minus, 1 to 24 digits, perhaps a point and 1 to 12 digits."""
    begin = 1 if codes[:1] == [MINUS] else 0
    point = end_of_digits(codes, begin)
    if not 1 <= point - begin <= MOST_DIGITS:
        return None
    decimals = codes[point + 1:]
    if point < len(codes) and (codes[point] != POINT or not are_decimals(decimals)):
        return None
    limit = number_of(codes[begin:point] + decimals) * power(10, MOST_DECIMALS - len(decimals))
    return Condition(comparison, -limit if begin == 1 else limit)


def are_decimals(codes):
    return 1 <= len(codes) <= MOST_DECIMALS and end_of_digits(codes, 0) == len(codes)


def holds(condition, number):
    if condition.comparison == "<=":
        return number <= condition.limit
    if condition.comparison == ">=":
        return number >= condition.limit
    if condition.comparison == "<>":
        return number != condition.limit
    if condition.comparison == "<":
        return number < condition.limit
    if condition.comparison == ">":
        return number > condition.limit
    return number == condition.limit
