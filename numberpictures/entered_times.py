"""Reads days and times that were entered."""

from numberpictures.codes import BLANK, COLON, MINUS, POINT, SLASH, are_digits, codes_of, number_of, parted, small
from numberpictures.days import is_date, number_of_date
from numberpictures.entry import number_entry
from numberpictures.rounding import round_halves_even
from numberpictures.values import ONE

OF_DAY = 86400000

DAY_PICTURE = "yyyy-mm-dd"

# For each sign between: at which places the year, the month and the day stand.
ORDERS = {45: (0, 1, 2), 46: (2, 1, 0), 47: (2, 0, 1)}


class Time:
    """A time of day in thousandths of a second, and whether it was entered with seconds."""

    def __init__(self, thousandths, has_seconds):
        self.thousandths = thousandths
        self.has_seconds = has_seconds


def read_moment(codes):
    """The day, the time or both that these bytes are, without blanks around; None if they are none of these."""
    day = read_day(codes)
    if day > 0:
        return number_entry(day * ONE, codes_of(DAY_PICTURE))
    time = read_time(codes)
    if time is not None:
        return make_entry(0, time, "")
    blank = codes.index(BLANK) if BLANK in codes else len(codes)
    day = read_day(codes[:blank])
    time = read_time(codes[blank + 1:])
    if day == 0 or time is None:
        return None
    return make_entry(day, time, DAY_PICTURE + " ")


def make_entry(day, time, front):
    """The entry of a day's time, with this in front of the time's picture."""
    number = round_halves_even((day * OF_DAY + time.thousandths) * ONE, OF_DAY)
    return number_entry(number, codes_of(front + ("h:mm:ss" if time.has_seconds else "h:mm")))


def read_day(codes):
    """The number of the day that these bytes are; 0 if they aren't one."""
    for sign in (MINUS, POINT, SLASH):
        parts = parted(codes, sign)
        if len(parts) == 3:
            order = ORDERS[sign]
            return find_day(parts[order[0]], parts[order[1]], parts[order[2]])
    return 0


def find_day(year, month, day):
    """The number of the day with these digits; 0 if there's no such day."""
    if not are_digits(year, 4, 4) or not are_digits(month, 1, 2) or not are_digits(day, 1, 2):
        return 0
    if not is_date(number_of(year), number_of(month), number_of(day)):
        return 0
    return number_of_date(number_of(year), number_of(month), number_of(day))


def read_time(codes):
    """The time of day that these bytes are; None if they aren't one."""
    words = parted(codes, BLANK)
    parts = parted(words[0], COLON)
    if len(words) > 2 or not 2 <= len(parts) <= 3:
        return None
    if not are_digits(parts[0], 1, 2) or not are_digits(parts[1], 1, 2):
        return None
    hour = find_hour(number_of(parts[0]), words[1:])
    minute = number_of(parts[1])
    thousandths = read_seconds(parts[2]) if len(parts) == 3 else 0
    if hour < 0 or minute >= 60 or thousandths < 0:
        return None
    return Time((hour * 60 + minute) * 60000 + thousandths, len(parts) == 3)


def find_hour(hour, words):
    """The hour from 0 to 23, by AM or PM if that's behind; -1 if it's none."""
    if words == []:
        return hour if hour < 24 else -1
    word = [small(code) for code in words[0]]
    if word not in (codes_of("am"), codes_of("pm")) or not 1 <= hour <= 12:
        return -1
    return hour % 12 + 12 if word == codes_of("pm") else hour % 12


def read_seconds(codes):
    """Seconds, perhaps with a point and 1 to 3 digits, in thousandths; -1 if they aren't so, or not below 60."""
    parts = parted(codes, POINT)
    if len(parts) > 2 or not are_digits(parts[0], 1, 2) or number_of(parts[0]) >= 60:
        return -1
    decimals = parts[1] if len(parts) == 2 else codes_of("0")
    if not are_digits(decimals, 1, 3):
        return -1
    return number_of(parts[0]) * 1000 + number_of((decimals + codes_of("00"))[:3])
