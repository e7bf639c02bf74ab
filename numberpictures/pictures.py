"""The calls of the package. Each gives back one list of whole numbers; a refusal is its number alone."""

from numberpictures.days import LAST_DAY, date_of, is_date, number_of_date, weekday_of
from numberpictures.entering import read_entry
from numberpictures.pieces import NoPicture
from numberpictures.sections import read_sections
from numberpictures.showing import show_value
from numberpictures.times import CannotShow
from numberpictures.values import WrongArgument, demand_value

WRONG_ARGUMENT = -1
NO_PICTURE = -3
CANNOT_SHOW = -4


def check(picture):
    """How many sections the picture has, then of each its colour (0 none) and its kind."""
    try:
        sections = read_sections(picture)
    except NoPicture:
        return [NO_PICTURE]
    answer = [len(sections)]
    for section in sections:
        answer.extend([section.colour, section.kind])
    return answer


def show(picture, value):
    """The colour (0 none), then how many bytes are shown, and these."""
    try:
        sections = read_sections(picture)
        demand_value(value)
        shown = show_value(sections, value)
    except NoPicture:
        return [NO_PICTURE]
    except WrongArgument:
        return [WRONG_ARGUMENT]
    except CannotShow:
        return [CANNOT_SHOW]
    return [shown.colour, len(shown.codes)] + shown.codes


def typed(text):
    """0, then the value that was entered, then how many bytes its picture has (0 none), and these."""
    try:
        entry = read_entry(text)
    except WrongArgument:
        return [WRONG_ARGUMENT]
    return [0] + entry.value + [len(entry.picture)] + entry.picture


def day_number(year, month, day):
    """The number of a day, of which 1 is January 1, 1900."""
    if not is_date(year, month, day):
        return [WRONG_ARGUMENT]
    return [number_of_date(year, month, day)]


def date(number):
    """0, then the year, the month, the day and the weekday (0 Sunday) of the day with this number."""
    if not 1 <= number <= LAST_DAY:
        return [WRONG_ARGUMENT]
    found = date_of(number)
    return [0, found.year, found.month, found.day, weekday_of(number)]
