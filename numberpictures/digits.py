"""Shows numbers by sections of digits, with or without an exponent, and as they are."""

from numberpictures.codes import BLANK, COMMA, LARGE_E, MINUS, PERCENT, PLUS, POINT, QUESTION, ZERO, digits_of
from numberpictures.rounding import power, round_halves_up
from numberpictures.values import DECIMALS, ONE


class Layout:
    """A section's pieces before its exponent, its places before the point and behind it, and how it scales."""

    def __init__(self, pieces):
        names = [piece.name for piece in pieces]
        end = names.index("exponent") if "exponent" in names else len(names)
        point = names.index("point") if "point" in names else end
        self.pieces = pieces[:end]
        self.exponent = pieces[end:]
        self.whole = [piece.value for piece in pieces[:point] if piece.name == "place"]
        self.behind = [piece.value for piece in pieces[point:end] if piece.name == "place"]
        self.has_groups = is_comma_between(names[:point])
        self.factor = power(100, names.count("percent"))
        self.divisor = ONE * power(1000, count_commas_behind(names[:point]))


class Digits:
    """What a section of digits shows, and whether all of the number's digits in it are 0."""

    def __init__(self, codes, is_zero):
        self.codes = codes
        self.is_zero = is_zero


def is_comma_between(names):
    """Whether a comma stands between two places."""
    if "place" not in names:
        return False
    first = names.index("place")
    return "comma" in names[first:last_place(names)]


def count_commas_behind(names):
    """How many commas stand behind the last place."""
    return names[last_place(names):].count("comma") if "place" in names else 0


def last_place(names):
    return max([at for at, name in enumerate(names) if name == "place"])


def show_digits(pieces, number):
    """What these pieces, of a section of digits, show of a number without its sign."""
    layout = Layout(pieces)
    if layout.exponent != []:
        return show_with_exponent(layout, number)
    decimals = len(layout.behind)
    rounded = round_halves_up(number * layout.factor * power(10, decimals), layout.divisor)
    return fill_in(layout, rounded)


def fill_in(layout, rounded):
    """The section filled with a number, which is given as so many of its last decimal."""
    unit = power(10, len(layout.behind))
    whole = rounded // unit
    decimals = rounded % unit
    cells = whole_cells(layout, whole) + decimal_cells(layout.behind, decimals)
    # Without a place before the point the whole part isn't shown at all.
    is_zero = decimals == 0 and (whole == 0 or layout.whole == [])
    return Digits(put_together(layout.pieces, cells), is_zero)


def put_together(pieces, cells):
    """The pieces in their order, with the cells' bytes at the places."""
    codes = []
    place = 0
    for piece in pieces:
        if piece.name == "place":
            codes.extend(cells[place])
            place += 1
        elif piece.name == "text":
            codes.extend(piece.value)
        elif piece.name == "percent":
            codes.append(PERCENT)
        elif piece.name == "point":
            codes.append(POINT)
    return codes


def empty_cell(place):
    """What a place shows that gets no digit."""
    if place == ZERO:
        return [ZERO]
    return [BLANK] if place == QUESTION else []


def whole_cells(layout, whole):
    """For each place before the point the bytes that stand there."""
    digits = digits_of(whole, 1) if whole > 0 else []
    cells = []
    for at, place in enumerate(layout.whole):
        behind = len(layout.whole) - 1 - at
        end = max(len(digits) - behind, 0)
        begin = 0 if at == 0 else max(end - 1, 0)
        cells.append(digits[begin:end] if end > 0 else empty_cell(place))
    return grouped(cells) if layout.has_groups else cells


def grouped(cells):
    """The cells with a comma, or a blank behind a blank, where three, six, ... signs are left."""
    left = sum([len(cell) for cell in cells])
    result = []
    for cell in cells:
        codes = []
        for code in cell:
            left -= 1
            codes.append(code)
            if left > 0 and left % 3 == 0:
                codes.append(BLANK if code == BLANK else COMMA)
        result.append(codes)
    return result


def decimal_cells(places, decimals):
    """For each place behind the point the bytes that stand there."""
    digits = digits_of(decimals, len(places))
    cells = []
    for at, place in enumerate(places):
        is_rest_zero = digits[at:].count(ZERO) == len(digits) - at
        cells.append(empty_cell(place) if is_rest_zero else [digits[at]])
    return cells


def show_with_exponent(layout, number):
    size = len(layout.whole)
    exponent = find_exponent(number, size)
    rounded = round_by_exponent(layout, number, exponent)
    if rounded == power(10, size + len(layout.behind)):
        exponent += size
        rounded = round_by_exponent(layout, number, exponent)
    shown = fill_in(layout, rounded)
    return Digits(shown.codes + exponent_codes(layout, exponent), shown.is_zero)


def find_exponent(number, size):
    """The greatest multiple of the size so that the number is no less than 10 to it; 0 of 0."""
    if number == 0:
        return 0
    order = len(digits_of(number, 1)) - 1 - DECIMALS
    return order // size * size


def round_by_exponent(layout, number, exponent):
    """The number by 10 to the exponent, as so many of the section's last decimal."""
    scaled = number * power(10, len(layout.behind) + max(-exponent, 0))
    return round_halves_up(scaled, ONE * power(10, max(exponent, 0)))


def exponent_codes(layout, exponent):
    sign = []
    if exponent < 0:
        sign = [MINUS]
    elif layout.exponent[0].value == PLUS:
        sign = [PLUS]
    zeros = [piece for piece in layout.exponent if piece.name == "place"]
    return [LARGE_E] + sign + digits_of(abs(exponent), len(zeros))


def as_it_is(number):
    """A number without its sign: its whole part, and its decimals without needless zeros, if there are any."""
    digits = digits_of(number // ONE, 1)
    decimals = digits_of(number % ONE, DECIMALS)
    while decimals != [] and decimals[-1] == ZERO:
        decimals.pop()
    return digits + [POINT] + decimals if decimals != [] else digits
