"""Reads numbers that were entered."""

from numberpictures.codes import CLOSING, COMMA, MINUS, OPENING, PERCENT, PLUS, POINT, SMALL_E
from numberpictures.codes import are_digits, codes_of, number_of, parted, small
from numberpictures.entry import number_entry
from numberpictures.rounding import power, round_halves_even
from numberpictures.values import DECIMALS, is_number

MOST_DIGITS = 60


class Figure:
    """A number as it's written without sign and percent: its digits, where the point is, and if it has commas.

    The number is that of all the digits by 10 to the scale.
    """

    def __init__(self, digits, decimals, scale, has_commas):
        self.digits = digits
        self.decimals = decimals
        self.scale = scale
        self.has_commas = has_commas


def read_number(codes):
    """The number that these bytes are, without blanks around; None if they aren't one."""
    bare = without_sign(codes)
    is_percent = bare[-1:] == [PERCENT]
    figure = read_figure(bare[:-1] if is_percent else bare)
    if figure is None:
        return None
    number = round_figure(figure)
    if is_percent:
        number = round_halves_even(number, 100)
    # A percent is asked for its hundredth, since that is the number.
    if not is_number(number):
        return None
    return number_entry(-number if is_below_0(codes) else number, find_picture(figure, is_percent))


def is_bracketed(codes):
    return len(codes) > 2 and codes[0] == OPENING and codes[-1] == CLOSING


def is_below_0(codes):
    return codes[0] == MINUS or is_bracketed(codes)


def without_sign(codes):
    """What stands behind the sign, or between the brackets."""
    if is_bracketed(codes):
        return codes[1:-1]
    return codes[1:] if codes[0] == MINUS or codes[0] == PLUS else codes


def read_figure(codes):
    """The figure that these bytes are; None if they aren't one."""
    parts = parted([small(code) for code in codes], SMALL_E)
    if len(parts) > 2 or (len(parts) == 2 and not is_exponent(parts[1])):
        return None
    exponent = exponent_of(parts[1]) if len(parts) == 2 else 0
    halves = parted(parts[0], POINT)
    if len(halves) > 2:
        return None
    groups = parted(halves[0], COMMA)
    whole = [code for code in halves[0] if code != COMMA]
    decimals = halves[1] if len(halves) == 2 else []
    if not are_groups(groups) or not are_digits(whole + decimals, 1, MOST_DIGITS):
        return None
    return Figure(whole + decimals, decimals, exponent - len(decimals), len(groups) > 1)


def is_exponent(codes):
    return are_digits(without_exponent_sign(codes), 1, 2)


def without_exponent_sign(codes):
    return codes[1:] if codes[:1] == [PLUS] or codes[:1] == [MINUS] else codes


def exponent_of(codes):
    size = number_of(without_exponent_sign(codes))
    return -size if codes[0] == MINUS else size


def are_groups(groups):
    """Whether digits without a comma, or 1 to 3 and behind each comma three, could be these groups."""
    if len(groups) == 1:
        return True
    return 1 <= len(groups[0]) <= 3 and all([len(group) == 3 for group in groups[1:]])


def round_figure(figure):
    """The figure's number as so many 10^-12, halves to the even one."""
    number = number_of(figure.digits)
    scale = figure.scale + DECIMALS
    if scale >= 0:
        return number * power(10, scale)
    return round_halves_even(number, power(10, -scale))


def find_picture(figure, is_percent):
    has_decimals = figure.decimals != []
    if is_percent:
        return codes_of("0.00" if has_decimals else "0") + [PERCENT]
    if figure.has_commas:
        return codes_of("#,##0.00" if has_decimals else "#,##0")
    return []
