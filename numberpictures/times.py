"""Shows numbers by sections of days and times."""

from numberpictures.codes import POINT, SMALL_D, SMALL_H, SMALL_M, SMALL_S, SMALL_Y, codes_of, digits_of
from numberpictures.days import LAST_DAY, MONTH_NAMES, WEEKDAY_NAMES, date_of, weekday_of
from numberpictures.rounding import power, round_halves_up
from numberpictures.values import ONE

SECONDS_OF_DAY = 86400

# Times are held in thousandths of a second, the least that a section can show.
THOUSANDTHS = 1000
OF_MINUTE = 60000
OF_HOUR = 3600000
OF_HALF_DAY = 43200000
OF_DAY = 86400000

PARTS = ("part", "passed")

# How many bytes AM/PM has; A/P has less.
LONG_NOON = 5


class CannotShow(ValueError):
    """The picture can't show the number."""


def show_time(pieces, number):
    """What these pieces, of a section of days and times, show of a number."""
    if number < 0:
        raise CannotShow("a number below 0")
    time = round_time(pieces, number)
    if time // OF_DAY > LAST_DAY:
        raise CannotShow("a number behind the last day")
    has_noon = "noon" in [piece.name for piece in pieces]
    codes = []
    for at, piece in enumerate(pieces):
        if piece.name == "text":
            codes.extend(piece.value)
        elif piece.name == "noon":
            codes.extend(show_noon(piece.value, time))
        elif piece.name == "passed":
            codes.extend(show_passed(piece.value, time))
        elif piece.name == "part" and is_minutes(pieces, at):
            codes.extend(digits_of(time // OF_MINUTE % 60, piece.value.size))
        elif piece.name == "part":
            codes.extend(show_part(piece.value, time, has_noon))
    return codes


def round_time(pieces, number):
    """The number in thousandths of a second, rounded as far as the section has seconds, else cut off."""
    parts = [piece.value for piece in pieces if piece.name in PARTS]
    decimals = [part.decimals for part in parts if part.letter == SMALL_S]
    if decimals == []:
        return number * SECONDS_OF_DAY // ONE * THOUSANDTHS
    most = max(decimals)
    rounded = round_halves_up(number * SECONDS_OF_DAY * power(10, most), ONE)
    return rounded * power(10, 3 - most)


def is_minutes(pieces, at):
    """Whether the part that stands here is m or mm and its neighbours make it minutes."""
    part = pieces[at].value
    if part.letter != SMALL_M or part.size > 2:
        return False
    before = [piece.value.letter for piece in pieces[:at] if piece.name in PARTS]
    behind = [piece.value.letter for piece in pieces[at + 1:] if piece.name in PARTS]
    return before[-1:] == [SMALL_H] or behind[:1] == [SMALL_S]


def show_noon(size, time):
    word = "AM" if time % OF_DAY < OF_HALF_DAY else "PM"
    return codes_of(word if size == LONG_NOON else word[:1])


def show_passed(part, time):
    if part.letter == SMALL_H:
        return digits_of(time // OF_HOUR, part.size)
    if part.letter == SMALL_M:
        return digits_of(time // OF_MINUTE, part.size)
    return digits_of(time // THOUSANDTHS, part.size) + show_decimals(part, time)


def show_decimals(part, time):
    """The point and the decimals of seconds, cut off to as many as the part has."""
    if part.decimals == 0:
        return []
    return [POINT] + digits_of(time % THOUSANDTHS, 3)[:part.decimals]


def show_part(part, time, has_noon):
    """What a part shows that isn't minutes."""
    if part.letter == SMALL_H:
        hour = time // OF_HOUR % 24
        return digits_of((hour + 11) % 12 + 1 if has_noon else hour, part.size)
    if part.letter == SMALL_S:
        return digits_of(time // THOUSANDTHS % 60, part.size) + show_decimals(part, time)
    number = time // OF_DAY
    date = date_of(number)
    if part.letter == SMALL_Y:
        return show_year(date.year, part.size)
    if part.letter == SMALL_D:
        name = WEEKDAY_NAMES[weekday_of(number)]
        return digits_of(date.day, part.size) if part.size <= 2 else show_name(name, part.size)
    name = MONTH_NAMES[date.month - 1]
    return digits_of(date.month, part.size) if part.size <= 2 else show_name(name, part.size)


def show_year(year, size):
    return digits_of(year % 100, 2) if size <= 2 else digits_of(year, 4)


def show_name(name, size):
    """The first three letters by three letters, all by four, the first by five."""
    if size == 3:
        return codes_of(name[:3])
    return codes_of(name if size == 4 else name[:1])
