"""Reads a picture into its sections and finds of which kind each of them is."""

from numberpictures.codes import SEMICOLON, ZERO
from numberpictures.pieces import NoPicture, read_piece
from numberpictures.utf8 import is_well_made

MOST_BYTES = 255
MOST_SECTIONS = 4

TEXTS_ALONE = 0
DIGITS = 1
DAYS_AND_TIMES = 2
WITH_TEXT = 3
AS_IT_IS = 4

COLOUR_OR_CONDITION = ("colour", "condition")

# What may stand in a section of any kind.
FREE_PIECES = ("text", "colour", "condition")

DAY_PIECES = ("part", "noon", "passed")
DIGIT_PIECES = ("place", "point", "comma", "percent", "exponent")


class Section:
    """A section's colour (0 none), its kind, its condition (None if it has none) and all its pieces."""

    def __init__(self, colour, kind, condition, pieces):
        self.colour = colour
        self.kind = kind
        self.condition = condition
        self.pieces = pieces


def read_sections(picture):
    """The sections of a picture; NoPicture is raised where it isn't right."""
    if len(picture) > MOST_BYTES or not is_well_made(picture):
        raise NoPicture("not UTF-8 of at most 255 bytes")
    sections = [make_section(pieces) for pieces in part_pieces(picture)]
    if not are_right_together(sections):
        raise NoPicture("sections that can't stand together so")
    return sections


def part_pieces(picture):
    """For each section the list of its pieces."""
    # A semicolon within a piece never comes up here, since pieces are read whole.
    parted = []
    pieces = []
    at = 0
    while at < len(picture):
        if picture[at] == SEMICOLON:
            parted.append(pieces)
            pieces = []
            at += 1
        else:
            piece = read_piece(picture, at)
            pieces.append(piece)
            at = piece.end
    parted.append(pieces)
    return parted


def make_section(pieces):
    colours = [piece.value for piece in pieces if piece.name == "colour"]
    conditions = [piece.value for piece in pieces if piece.name == "condition"]
    if len(colours) > 1 or len(conditions) > 1:
        raise NoPicture("more than one colour or condition")
    condition = conditions[0] if len(conditions) == 1 else None
    return Section(sum(colours), find_kind(pieces), condition, pieces)


def find_kind(pieces):
    names = [piece.name for piece in pieces if piece.name not in FREE_PIECES]
    if names == []:
        return TEXTS_ALONE
    if names == ["general"]:
        return AS_IT_IS
    if all([name == "at" for name in names]):
        return WITH_TEXT
    if all([name in DAY_PIECES for name in names]):
        return DAYS_AND_TIMES
    if all([name in DIGIT_PIECES for name in names]) and are_right_digits(pieces):
        return DIGITS
    raise NoPicture("a section of no kind")


def are_right_digits(pieces):
    names = [piece.name for piece in pieces]
    if "exponent" not in names:
        return is_right_number(names)
    at = names.index("exponent")
    number = names[:at]
    return is_right_number(number) and may_have_exponent(number) and is_right_exponent(pieces[at + 1:])


def whole_part(names):
    """What stands before the point, which is all if there's none."""
    return names[:names.index("point")] if "point" in names else names


def is_right_number(names):
    """Whether what stands before the exponent, or all if there's none, keeps within the limits."""
    if "place" not in names or names.count("point") > 1 or names.count("percent") > 4:
        return False
    whole = whole_part(names)
    behind = names[len(whole):]
    if whole.count("place") > 24 or whole.count("comma") > 8:
        return False
    return behind.count("place") <= 12 and "comma" not in behind


def may_have_exponent(names):
    whole = whole_part(names)
    return "place" in whole and "comma" not in whole and "percent" not in names


def is_right_exponent(pieces):
    """Whether what stands behind E+ or E- is 1 to 3 zeros, a colour or a condition aside."""
    counted = [piece for piece in pieces if piece.name not in COLOUR_OR_CONDITION]
    zeros = [piece for piece in counted if piece.name == "place" and piece.value == ZERO]
    return 1 <= len(zeros) <= 3 and len(zeros) == len(counted)


def are_right_together(sections):
    if len(sections) > MOST_SECTIONS:
        return False
    if any([section.kind == WITH_TEXT for section in sections[:-1]]):
        return False
    if any([section.condition is not None for section in sections[2:]]):
        return False
    return len(sections) < MOST_SECTIONS or sections[3].kind in (TEXTS_ALONE, WITH_TEXT)


def text_sections(sections):
    """The section of texts, alone in a list, or an empty list: the fourth, or the last if it's of kind 3."""
    if len(sections) == MOST_SECTIONS or sections[-1].kind == WITH_TEXT:
        return sections[-1:]
    return []


def number_sections(sections):
    """The sections of numbers, which are all others."""
    return sections[:len(sections) - len(text_sections(sections))]
