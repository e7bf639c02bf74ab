"""Reads the pieces that a picture's sections are made of."""

from numberpictures.utf8 import character_size

QUOTE = 34
PLUS = 43
MINUS = 45
POINT = 46
ZERO = 48
NINE = 57
LARGE_A = 65
LARGE_E = 69
LARGE_Z = 90
OPENING_BRACKET = 91
BACKSLASH = 92
CLOSING_BRACKET = 93
UNDERSCORE = 95
SMALL_H = 104
SMALL_M = 109
SMALL_S = 115

# 0 # ? are places; then the point, the comma, the sign of percent, and @.
SIGNS = {48: "place", 35: "place", 63: "place", 46: "point", 44: "comma", 37: "percent", 64: "at"}

WORDS = {"general": "general", "am/pm": "noon", "a/p": "noon"}

# Of y, m, d, h and s: how many may stand in a row.
LONGEST_ROWS = {121: 4, 109: 5, 100: 4, 104: 2, 115: 2}

# What stands for itself, but the characters beyond 127.
PLAIN = " !$&'()+-/:<=>^{}~"

COLOURS = ("black", "blue", "cyan", "green", "magenta", "red", "white", "yellow")

# The longer ones come first: < would else be taken out of <= and <>.
COMPARISONS = ("<=", ">=", "<>", "<", ">", "=")


class NoPicture(ValueError):
    """The bytes are no picture."""


class Piece:
    """A piece's name, a number that tells more of it (0 if none does), and the place right behind it."""

    def __init__(self, name, value, end):
        self.name = name
        self.value = value
        self.end = end


def small(code):
    """A large letter's small one; any other byte as it is."""
    return code + 32 if LARGE_A <= code <= LARGE_Z else code


def codes_of(word):
    return [ord(sign) for sign in word]


def begins_with(codes, at, word):
    """Whether the word stands at this place, its letters large or small."""
    return [small(code) for code in codes[at:at + len(word)]] == codes_of(word)


def read_piece(picture, at):
    """The piece that begins at this place: of the document's forms, in its order, the first that fits."""
    code = picture[at]
    if code == QUOTE:
        return Piece("text", 0, closing_place(picture, at, QUOTE) + 1)
    if code == BACKSLASH or code == UNDERSCORE:
        return read_character_behind(picture, at)
    if code == OPENING_BRACKET:
        return read_bracket(picture, at)
    if code in SIGNS:
        return Piece(SIGNS[code], code, at + 1)
    if code == LARGE_E and picture[at + 1:at + 2] in ([PLUS], [MINUS]):
        return Piece("exponent", 0, at + 2)
    for word in WORDS:
        if begins_with(picture, at, word):
            return Piece(WORDS[word], 0, at + len(word))
    if small(code) in LONGEST_ROWS:
        return read_row(picture, at)
    if code > 127 or code in codes_of(PLAIN):
        return Piece("text", 0, at + character_size(code))
    raise NoPicture("a character that doesn't stand for itself")


def closing_place(picture, at, closing):
    """Where what is opened at this place is closed."""
    end = at + 1
    while end < len(picture) and picture[end] != closing:
        end += 1
    if end == len(picture):
        raise NoPicture("a quote or a bracket that isn't closed")
    return end


def read_character_behind(picture, at):
    if at + 1 == len(picture):
        raise NoPicture("no character behind")
    return Piece("text", 0, at + 1 + character_size(picture[at + 1]))


def read_row(picture, at):
    """A row of alike letters, a part of a day or time, with its decimals."""
    letter = small(picture[at])
    end = at + 1
    while end < len(picture) and small(picture[end]) == letter:
        end += 1
    if end - at > LONGEST_ROWS[letter]:
        raise NoPicture("too many letters in a row")
    return Piece("part", letter, end_of_decimals(picture, end, letter))


def end_of_decimals(picture, at, letter):
    """The place behind the decimals of a part of this letter, which ends here."""
    # A point with no zero behind it isn't decimals, and a fourth zero isn't one of them.
    if letter != SMALL_S or picture[at:at + 2] != [POINT, ZERO]:
        return at
    end = at + 2
    while end < at + 4 and picture[end:end + 1] == [ZERO]:
        end += 1
    return end


def read_bracket(picture, at):
    """A colour, a condition or passed time; nothing else may stand in brackets."""
    closing = closing_place(picture, at, CLOSING_BRACKET)
    inner = [small(code) for code in picture[at + 1:closing]]
    colour = colour_number(inner)
    if colour > 0:
        return Piece("colour", colour, closing + 1)
    if is_condition(inner):
        return Piece("condition", 0, closing + 1)
    if is_passed_time(inner):
        return Piece("passed", inner[0], end_of_decimals(picture, closing + 1, inner[0]))
    raise NoPicture("something else in brackets")


def colour_number(inner):
    for number, word in enumerate(COLOURS, start=1):
        if inner == codes_of(word):
            return number
    return 0


def is_passed_time(inner):
    if not 1 <= len(inner) <= 9 or inner[0] not in (SMALL_H, SMALL_M, SMALL_S):
        return False
    return inner.count(inner[0]) == len(inner)


def is_condition(inner):
    for comparison in COMPARISONS:
        if begins_with(inner, 0, comparison):
            return is_number(inner[len(comparison):])
    return False


def is_number(codes):
    """Whether this is a condition's number: perhaps a minus, 1 to 24 digits, perhaps a point and 1 to 12 digits."""
    begin = 1 if codes[:1] == [MINUS] else 0
    point = end_of_digits(codes, begin)
    if not 1 <= point - begin <= 24:
        return False
    if point == len(codes):
        return True
    end = end_of_digits(codes, point + 1)
    return codes[point] == POINT and 1 <= end - point - 1 <= 12 and end == len(codes)


def end_of_digits(codes, begin):
    end = begin
    while end < len(codes) and ZERO <= codes[end] <= NINE:
        end += 1
    return end
