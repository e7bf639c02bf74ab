"""Reads the pieces that a picture's sections are made of."""

from numberpictures.codes import BACKSLASH, BLANK, CLOSING_BRACKET, LARGE_E, MINUS, OPENING_BRACKET, PLUS, POINT, QUOTE
from numberpictures.codes import SMALL_H, SMALL_M, SMALL_S, UNDERSCORE, ZERO, begins_with, codes_of, small
from numberpictures.conditions import read_condition
from numberpictures.utf8 import character_size

# 0 # ? are places; then the point, the comma, the sign of percent, and @.
SIGNS = {48: "place", 35: "place", 63: "place", 46: "point", 44: "comma", 37: "percent", 64: "at"}

WORDS = {"general": "general", "am/pm": "noon", "a/p": "noon"}

# Of y, m, d, h and s: how many may stand in a row.
LONGEST_ROWS = {121: 4, 109: 5, 100: 4, 104: 2, 115: 2}

LONGEST_PASSED_TIME = 9
MOST_DECIMALS_OF_SECONDS = 3

# What stands for itself, but the characters beyond 127.
PLAIN = " !$&'()+-/:<=>^{}~"

COLOURS = ("black", "blue", "cyan", "green", "magenta", "red", "white", "yellow")


class NoPicture(ValueError):
    """The bytes are no picture."""


class Piece:
    """A piece's name, the place right behind it, and what more is told of it, by its name:

    text: the bytes it shows; colour: its number; condition: the Condition; part and passed: the Part;
    place, point, comma, percent, at: the byte; exponent: the byte of its sign; general, noon: how many bytes it has.
    """

    def __init__(self, name, value, end):
        self.name = name
        self.value = value
        self.end = end


class Part:
    """A part of a day or time: its small letter, how many of it there are, and how many decimals."""

    def __init__(self, letter, size, decimals):
        self.letter = letter
        self.size = size
        self.decimals = decimals


def read_piece(picture, at):
    """The piece that begins at this place: of the document's forms, in its order, the first that fits."""
    code = picture[at]
    if code == QUOTE:
        closing = closing_place(picture, at, QUOTE)
        return Piece("text", picture[at + 1:closing], closing + 1)
    if code == BACKSLASH or code == UNDERSCORE:
        return read_character_behind(picture, at)
    if code == OPENING_BRACKET:
        return read_bracket(picture, at)
    if code in SIGNS:
        return Piece(SIGNS[code], code, at + 1)
    if code == LARGE_E and picture[at + 1:at + 2] in ([PLUS], [MINUS]):
        return Piece("exponent", picture[at + 1], at + 2)
    for word in WORDS:
        if begins_with(picture, at, word):
            return Piece(WORDS[word], len(word), at + len(word))
    if small(code) in LONGEST_ROWS:
        return read_row(picture, at)
    if code > 127 or code in codes_of(PLAIN):
        end = at + character_size(code)
        return Piece("text", picture[at:end], end)
    raise NoPicture("a character that doesn't stand for itself")


def closing_place(picture, at, closing):
    """Where what is opened at this place is closed."""
    end = at + 1
    while end < len(picture) and picture[end] != closing:
        end += 1
    if end == len(picture):
        raise NoPicture("a quote or a bracket that isn't closed")
    return end


def read_character_behind(picture, at):
    """What a backslash shows, the character behind it, or an underscore, a blank in that one's place."""
    if at + 1 == len(picture):
        raise NoPicture("no character behind")
    end = at + 1 + character_size(picture[at + 1])
    return Piece("text", [BLANK] if picture[at] == UNDERSCORE else picture[at + 1:end], end)


def read_row(picture, at):
    """A row of alike letters, a part of a day or time, with its decimals."""
    letter = small(picture[at])
    end = at + 1
    while end < len(picture) and small(picture[end]) == letter:
        end += 1
    if end - at > LONGEST_ROWS[letter]:
        raise NoPicture("too many letters in a row")
    return make_part(picture, "part", letter, end - at, end)


def make_part(picture, name, letter, size, end):
    """The part of this letter that ends here, its decimals taken in."""
    decimals = count_decimals(picture, end) if letter == SMALL_S else 0
    # The decimals' point is taken in with them.
    behind = end + 1 + decimals if decimals > 0 else end
    return Piece(name, Part(letter, size, decimals), behind)


def count_decimals(picture, at):
    """How many decimals of seconds stand here behind a point."""
    # A point with no zero behind it isn't decimals, and a fourth zero isn't one of them.
    if picture[at:at + 1] != [POINT]:
        return 0
    end = at + 1
    while end <= at + MOST_DECIMALS_OF_SECONDS and picture[end:end + 1] == [ZERO]:
        end += 1
    return end - at - 1


def read_bracket(picture, at):
    """A colour, a condition or passed time; nothing else may stand in brackets."""
    closing = closing_place(picture, at, CLOSING_BRACKET)
    inner = [small(code) for code in picture[at + 1:closing]]
    colour = colour_number(inner)
    if colour > 0:
        return Piece("colour", colour, closing + 1)
    condition = read_condition(inner)
    if condition is not None:
        return Piece("condition", condition, closing + 1)
    if is_passed_time(inner):
        return make_part(picture, "passed", inner[0], len(inner), closing + 1)
    raise NoPicture("something else in brackets")


def colour_number(inner):
    for number, word in enumerate(COLOURS, start=1):
        if inner == codes_of(word):
            return number
    return 0


def is_passed_time(inner):
    if not 1 <= len(inner) <= LONGEST_PASSED_TIME or inner[0] not in (SMALL_H, SMALL_M, SMALL_S):
        return False
    return inner.count(inner[0]) == len(inner)
