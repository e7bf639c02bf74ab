"""The calendar: day 1 is January 1, 1900."""

FIRST_YEAR = 1900
LAST_YEAR = 9999
LAST_DAY = 2958464

MONTH_NAMES = ("January", "February", "March", "April", "May", "June", "July", "August", "September", "October",
               "November", "December")
WEEKDAY_NAMES = ("Sunday", "Monday", "Tuesday", "Wednesday", "Thursday", "Friday", "Saturday")

MONTH_LENGTHS = (31, 28, 31, 30, 31, 30, 31, 31, 30, 31, 30, 31)
FEBRUARY = 2


class Date:
    """A day's year, month and day in the month."""

    def __init__(self, year, month, day):
        self.year = year
        self.month = month
        self.day = day


def is_leap_year(year):
    return year % 4 == 0 and (year % 100 != 0 or year % 400 == 0)


def month_length(year, month):
    if month == FEBRUARY and is_leap_year(year):
        return 29
    return MONTH_LENGTHS[month - 1]


def leap_years_before(year):
    last = year - 1
    return last // 4 - last // 100 + last // 400


def first_day(year):
    """The number of January 1."""
    leap_days = leap_years_before(year) - leap_years_before(FIRST_YEAR)
    return 1 + 365 * (year - FIRST_YEAR) + leap_days


def date_of(number):
    """The date of a day from 0 on; day 0 is day 0 of January 1900."""
    # Four years have 1461 days at most, and 1900 is no leap year: this year isn't too late, and at most one too early.
    year = FIRST_YEAR + number * 4 // 1461
    if first_day(year + 1) <= number:
        year += 1
    day = number - first_day(year) + 1
    month = 1
    while day > month_length(year, month):
        day -= month_length(year, month)
        month += 1
    return Date(year, month, day)


def is_date(year, month, day):
    """Whether there is such a day in the calendar's years."""
    if not FIRST_YEAR <= year <= LAST_YEAR or not 1 <= month <= 12:
        return False
    return 1 <= day <= month_length(year, month)


def number_of_date(year, month, day):
    """The number of a day that there is."""
    number = first_day(year) + day - 1
    for before in range(1, month):
        number += month_length(year, before)
    return number


def weekday_of(number):
    """The weekday of a day: 0 is Sunday."""
    return number % 7
