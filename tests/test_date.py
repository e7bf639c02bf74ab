"""date: the year, month, day and weekday of a number, and the numbers that are no day's."""

import itertools
import unittest

from helper import LAST_DAY, LEAST, MOST, WRONG_ARGUMENT, days_in_turn
from numberpictures.pictures import date, day_number

SUNDAY, MONDAY, TUESDAY, WEDNESDAY, THURSDAY, FRIDAY, SATURDAY = range(7)

FIRST_YEAR = {1: (1900, 1, 1, MONDAY), 2: (1900, 1, 2, TUESDAY), 7: (1900, 1, 7, SUNDAY), 31: (1900, 1, 31, WEDNESDAY),
              32: (1900, 2, 1, THURSDAY), 59: (1900, 2, 28, WEDNESDAY), 60: (1900, 3, 1, THURSDAY),
              61: (1900, 3, 2, FRIDAY), 365: (1900, 12, 31, MONDAY), 366: (1901, 1, 1, TUESDAY),
              367: (1901, 1, 2, WEDNESDAY)}

FEBRUARIES = {1518: (1904, 2, 27, SATURDAY), 1519: (1904, 2, 28, SUNDAY), 1520: (1904, 2, 29, MONDAY),
              1521: (1904, 3, 1, TUESDAY), 1522: (1904, 3, 2, WEDNESDAY), 36582: (2000, 2, 27, SUNDAY),
              36583: (2000, 2, 28, MONDAY), 36584: (2000, 2, 29, TUESDAY), 36585: (2000, 3, 1, WEDNESDAY),
              36586: (2000, 3, 2, THURSDAY), 45348: (2024, 2, 27, TUESDAY), 45349: (2024, 2, 28, WEDNESDAY),
              45350: (2024, 2, 29, THURSDAY), 45351: (2024, 3, 1, FRIDAY), 45352: (2024, 3, 2, SATURDAY),
              73107: (2100, 2, 27, SATURDAY), 73108: (2100, 2, 28, SUNDAY), 73109: (2100, 3, 1, MONDAY),
              73110: (2100, 3, 2, TUESDAY), 182679: (2400, 2, 27, SUNDAY), 182680: (2400, 2, 28, MONDAY),
              182681: (2400, 2, 29, TUESDAY), 182682: (2400, 3, 1, WEDNESDAY), 182683: (2400, 3, 2, THURSDAY)}

# The last days of years; the day behind is January 1, and the next weekday.
ENDS_OF_YEARS = {1460: (1903, THURSDAY), 1826: (1904, SATURDAY), 2191: (1905, SUNDAY), 36524: (1999, FRIDAY),
                 36890: (2000, SUNDAY), 37255: (2001, MONDAY), 45290: (2023, SUNDAY), 45656: (2024, TUESDAY),
                 46021: (2025, WEDNESDAY), 73049: (2099, THURSDAY), 73414: (2100, FRIDAY), 182621: (2399, FRIDAY),
                 182987: (2400, SUNDAY), 2957369: (9996, TUESDAY), 2958099: (9998, THURSDAY)}


class DateTest(unittest.TestCase):
    def dates(self, number, *expected):
        """The number's day has this year, month, day and weekday."""
        with self.subTest(number=number):
            self.assertEqual(date(number), [0] + list(expected))

    def is_no_date(self, *numbers):
        for number in numbers:
            with self.subTest(number=number):
                self.assertEqual(date(number), WRONG_ARGUMENT)


class Dates(DateTest):
    def test_the_first_year(self):
        for number, expected in FIRST_YEAR.items():
            self.dates(number, *expected)

    def test_ends_of_februaries(self):
        for number, expected in FEBRUARIES.items():
            self.dates(number, *expected)

    def test_ends_of_years(self):
        for number, (year, weekday) in ENDS_OF_YEARS.items():
            self.dates(number - 1, year, 12, 30, (weekday - 1) % 7)
            self.dates(number, year, 12, 31, weekday)
            self.dates(number + 1, year + 1, 1, 1, (weekday + 1) % 7)

    def test_the_last_days(self):
        self.dates(LAST_DAY - 1, 9999, 12, 30, THURSDAY)
        self.dates(LAST_DAY, 9999, 12, 31, FRIDAY)

    def test_every_number_in_turn(self):
        weekday = SUNDAY
        number = 0
        for year, month, day in days_in_turn():
            number += 1
            weekday = (weekday + 1) % 7
            # A plain comparison, since three million calls of assertEqual take long.
            if date(number) != [0, year, month, day, weekday]:
                self.fail(f"{number} isn't {year}-{month}-{day}, weekday {weekday}")
            if day_number(year, month, day) != [number]:
                self.fail(f"{year}-{month}-{day} isn't {number}")
        self.assertEqual(number, LAST_DAY)

    def test_twice_gives_the_same(self):
        for number in (1, 60, 45350, LAST_DAY, 0, LAST_DAY + 1):
            first = date(number)
            second = date(number)
            self.assertEqual(first, second)
            first.append(99)
            self.assertEqual(date(number), second)


class Refusals(DateTest):
    def test_below_1(self):
        self.is_no_date(0, -1, -2, -7, -365, -LAST_DAY, LEAST + 1, LEAST)

    def test_behind_the_last(self):
        self.is_no_date(LAST_DAY + 1, LAST_DAY + 2, LAST_DAY + 366, 2 * LAST_DAY, MOST - 1, MOST)

    def test_far_and_wide(self):
        for power, step in itertools.product(range(22, 32), (-1, 0, 1)):
            self.is_no_date(max(-2 ** power + step, LEAST), min(2 ** power + step, MOST))


if __name__ == "__main__":
    unittest.main()
