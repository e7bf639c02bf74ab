"""Reads what was entered by what it looks like."""

from numberpictures.codes import APOSTROPHE, BLANK, codes_of, small
from numberpictures.entered_numbers import read_number
from numberpictures.entered_times import read_moment
from numberpictures.entry import Entry, text_entry
from numberpictures.values import EMPTY, ERROR, ERROR_NAMES, TRUTH, WrongArgument, is_text


def read_entry(codes):
    """The value and the picture of what was entered: of the document's forms, in its order, the first that fits."""
    if not is_text(codes):
        raise WrongArgument("not a text")
    bare = without_blanks(codes)
    if bare == []:
        return Entry([EMPTY], [])
    if codes[0] == APOSTROPHE:
        return text_entry(codes[1:])
    entry = read_word(bare)
    if entry is None:
        entry = read_number(bare)
    if entry is None:
        entry = read_moment(bare)
    return text_entry(codes) if entry is None else entry


def without_blanks(codes):
    """What is left without the blanks at both ends."""
    begin = 0
    end = len(codes)
    while begin < end and codes[begin] == BLANK:
        begin += 1
    while begin < end and codes[end - 1] == BLANK:
        end -= 1
    return codes[begin:end]


def read_word(codes):
    """The truth or the error with this name; None if there's none."""
    word = [small(code) for code in codes]
    if word == codes_of("true"):
        return Entry([TRUTH, 1], [])
    if word == codes_of("false"):
        return Entry([TRUTH, 0], [])
    for number, name in enumerate(ERROR_NAMES, start=1):
        if codes == codes_of(name):
            return Entry([ERROR, number], [])
    return None
