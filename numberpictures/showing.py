"""Shows a value: takes the section that fits and puts together what it shows."""

from numberpictures.codes import MINUS, codes_of
from numberpictures.conditions import holds
from numberpictures.digits import as_it_is, show_digits
from numberpictures.sections import DAYS_AND_TIMES, DIGITS, number_sections, text_sections
from numberpictures.times import show_time
from numberpictures.values import EMPTY, ERROR_NAMES, NUMBER, TEXT, TRUTH

NO_COLOUR = 0

SECOND = 1


class Shown:
    """A colour and the bytes that are shown."""

    def __init__(self, colour, codes):
        self.colour = colour
        self.codes = codes


def show_value(sections, value):
    """How a value, as told, is shown by a picture's sections."""
    if value[0] == EMPTY:
        return Shown(NO_COLOUR, [])
    if value[0] == NUMBER:
        return show_number(number_sections(sections), value[1])
    if value[0] == TEXT:
        return show_text(text_sections(sections), value[2:])
    if value[0] == TRUTH:
        return Shown(NO_COLOUR, codes_of("TRUE" if value[1] == 1 else "FALSE"))
    return Shown(NO_COLOUR, codes_of(ERROR_NAMES[value[1] - 1]))


def show_text(sections, text):
    """The section of texts with the text at each of its places; the text itself if there's no such section."""
    if sections == []:
        return Shown(NO_COLOUR, text)
    return Shown(sections[0].colour, put_in(sections[0].pieces, "at", text))


def put_in(pieces, name, codes):
    """The pieces' texts in their order, with these bytes in the place of each piece of the name."""
    result = []
    for piece in pieces:
        if piece.name == "text":
            result.extend(piece.value)
        elif piece.name == name:
            result.extend(codes)
    return result


def show_number(sections, number):
    for at, section in enumerate(sections):
        if fits(section, at, len(sections), number):
            return Shown(section.colour, show_by_section(section, at, number))
    return Shown(NO_COLOUR, with_minus(number < 0, as_it_is(abs(number))))


def fits(section, at, many, number):
    """Whether a section, by its condition or else by its place among so many, is for the number."""
    if section.condition is not None:
        return holds(section.condition, number)
    if at == many - 1:
        return True
    if at == SECOND:
        return number < 0
    return number >= 0 if many == 2 else number > 0


def show_by_section(section, at, number):
    if section.kind == DAYS_AND_TIMES:
        return show_time(section.pieces, number)
    has_minus = number < 0 and (at != SECOND or section.condition is not None)
    if section.kind == DIGITS:
        shown = show_digits(section.pieces, abs(number))
        return with_minus(has_minus and not shown.is_zero, shown.codes)
    return with_minus(has_minus, put_in(section.pieces, "general", as_it_is(abs(number))))


def with_minus(has_minus, codes):
    return [MINUS] + codes if has_minus else codes
