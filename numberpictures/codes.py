"""Bytes by name, and what several readers ask of them."""

BLANK = 32
QUOTE = 34
PERCENT = 37
APOSTROPHE = 39
OPENING = 40
CLOSING = 41
PLUS = 43
COMMA = 44
MINUS = 45
POINT = 46
SLASH = 47
ZERO = 48
NINE = 57
COLON = 58
SEMICOLON = 59
QUESTION = 63
LARGE_A = 65
LARGE_E = 69
LARGE_Z = 90
OPENING_BRACKET = 91
BACKSLASH = 92
CLOSING_BRACKET = 93
UNDERSCORE = 95
SMALL_D = 100
SMALL_E = 101
SMALL_H = 104
SMALL_M = 109
SMALL_S = 115
SMALL_Y = 121


def small(code):
    """A large letter's small one; any other byte as it is."""
    return code + 32 if LARGE_A <= code <= LARGE_Z else code


def codes_of(word):
    return [ord(sign) for sign in word]


def begins_with(codes, at, word):
    """Whether the word stands at this place, its letters large or small."""
    return [small(code) for code in codes[at:at + len(word)]] == codes_of(word)


def end_of_digits(codes, begin):
    end = begin
    while end < len(codes) and ZERO <= codes[end] <= NINE:
        end += 1
    return end


def are_digits(codes, least, most):
    """Whether these are digits alone, from so many to so many."""
    return least <= len(codes) <= most and end_of_digits(codes, 0) == len(codes)


def parted(codes, sign):
    """What stands before, between and behind this sign, wherever it stands."""
    parts = []
    begin = 0
    for at, code in enumerate(codes):
        if code == sign:
            parts.append(codes[begin:at])
            begin = at + 1
    parts.append(codes[begin:])
    return parts


def number_of(digits):
    """The number that these digits stand for, 0 if there are none."""
    number = 0
    for digit in digits:
        number = number * 10 + digit - ZERO
    return number


def digits_of(number, least):
    """The number's digits, with zeros in front if they are less than so many."""
    return codes_of(str(number).zfill(least))
