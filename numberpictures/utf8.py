"""Tells whether bytes are well-made UTF-8, and how many of them one character has."""

LAST_CHARACTER = 1114111
FIRST_SURROGATE = 55296
LAST_SURROGATE = 57343

# By a character's size in bytes: the least number that needs so many; a lesser one is longer than needed.
LEAST_BY_SIZE = (0, 0, 128, 2048, 65536)


def character_size(first):
    """How many bytes a character has that begins with this one; 0 if none begins so."""
    if first < 128:
        return 1
    if first < 192:
        return 0
    if first < 224:
        return 2
    if first < 240:
        return 3
    return 4 if first < 248 else 0


def is_character(codes):
    """Whether these bytes, as many as the first of them asks for, are one character, well made."""
    size = len(codes)
    number = codes[0] if size == 1 else codes[0] & (127 >> size)
    for code in codes[1:]:
        if code & 192 != 128:
            return False
        number = number * 64 + code % 64
    is_surrogate = FIRST_SURROGATE <= number <= LAST_SURROGATE
    return LEAST_BY_SIZE[size] <= number <= LAST_CHARACTER and not is_surrogate


def is_well_made(codes):
    """Whether these bytes are UTF-8: no surrogates, nothing longer than needed, nothing cut off."""
    at = 0
    while at < len(codes):
        size = character_size(codes[at])
        if size == 0 or at + size > len(codes) or not is_character(codes[at:at + size]):
            return False
        at += size
    return True
