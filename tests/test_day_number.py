"""day_number: the number of a day, and the days that there aren't."""

import calendar
import itertools
import unittest

from helper import LAST_DAY, LEAST, MOST, WRONG_ARGUMENT, days_in_turn
from numberpictures.pictures import day_number

# By year: January 1 and December 31.
YEARS = {1900: (1, 365), 1901: (366, 730), 1903: (1096, 1460), 1904: (1461, 1826), 1905: (1827, 2191),
         1999: (36160, 36524), 2000: (36525, 36890), 2001: (36891, 37255), 2023: (44926, 45290), 2024: (45291, 45656),
         2025: (45657, 46021), 2099: (72685, 73049), 2100: (73050, 73414), 2101: (73415, 73779),
         2399: (182257, 182621), 2400: (182622, 182987), 2401: (182988, 183352), 9995: (2956639, 2957003),
         9996: (2957004, 2957369), 9997: (2957370, 2957734), 9999: (2958100, 2958464)}

# By year, for each month: its last day in the month, and the numbers of its first and its last day.
MONTHS = {2023: ((31, 44926, 44956), (28, 44957, 44984), (31, 44985, 45015), (30, 45016, 45045), (31, 45046, 45076),
                 (30, 45077, 45106), (31, 45107, 45137), (31, 45138, 45168), (30, 45169, 45198), (31, 45199, 45229),
                 (30, 45230, 45259), (31, 45260, 45290)),
          2024: ((31, 45291, 45321), (29, 45322, 45350), (31, 45351, 45381), (30, 45382, 45411), (31, 45412, 45442),
                 (30, 45443, 45472), (31, 45473, 45503), (31, 45504, 45534), (30, 45535, 45564), (31, 45565, 45595),
                 (30, 45596, 45625), (31, 45626, 45656))}

# By year: February 28, February 29 (None where there's none) and March 1.
FEBRUARIES = {1900: (59, None, 60), 1904: (1519, 1520, 1521), 2000: (36583, 36584, 36585), 2023: (44984, None, 44985),
              2024: (45349, 45350, 45351), 2100: (73108, None, 73109), 2400: (182680, 182681, 182682),
              9999: (2958158, None, 2958159)}

WRONG_YEARS = (1899, 10000, 0, -1, 99, 24, -2024, LEAST, MOST)
WRONG_MONTHS = (0, 13, -1, -12, 100, LEAST, MOST)
WRONG_DAYS = (0, -1, 32, -31, 100, LEAST, MOST)

MONTHS_OF_30 = (4, 6, 9, 11)


class DayNumberTest(unittest.TestCase):
    def numbers(self, year, month, day, expected):
        with self.subTest(year=year, month=month, day=day):
            self.assertEqual(day_number(year, month, day), [expected])

    def is_no_day(self, year, month, day):
        with self.subTest(year=year, month=month, day=day):
            self.assertEqual(day_number(year, month, day), WRONG_ARGUMENT)


class Days(DayNumberTest):
    def test_the_first_and_the_last(self):
        self.numbers(1900, 1, 1, 1)
        self.numbers(1900, 1, 2, 2)
        self.numbers(9999, 12, 30, LAST_DAY - 1)
        self.numbers(9999, 12, 31, LAST_DAY)

    def test_ends_of_years(self):
        for year, (first, last) in YEARS.items():
            self.numbers(year, 1, 1, first)
            self.numbers(year, 12, 31, last)

    def test_ends_of_months(self):
        for year, months in MONTHS.items():
            for month, (length, first, last) in enumerate(months, start=1):
                self.numbers(year, month, 1, first)
                self.numbers(year, month, length, last)

    def test_ends_of_februaries(self):
        for year, (last, leap, first) in FEBRUARIES.items():
            self.numbers(year, 2, 28, last)
            self.numbers(year, 3, 1, first)
            if leap is None:
                self.is_no_day(year, 2, 29)
            else:
                self.numbers(year, 2, 29, leap)
            self.is_no_day(year, 2, 30)

    def test_every_day_in_turn(self):
        before = 0
        for year, month, day in days_in_turn():
            # A plain comparison, since three million calls of assertEqual take long.
            if day_number(year, month, day) != [before + 1]:
                self.fail(f"{year}-{month}-{day} isn't {before + 1}")
            before += 1
        self.assertEqual(before, LAST_DAY)

    def test_twice_gives_the_same(self):
        for asked in ((1900, 1, 1), (2024, 2, 29), (2023, 2, 29), (9999, 12, 31), (LEAST, MOST, 0)):
            first = day_number(*asked)
            second = day_number(*asked)
            self.assertEqual(first, second)
            first.append(99)
            self.assertEqual(day_number(*asked), second)


class Refusals(DayNumberTest):
    def test_years(self):
        for year in WRONG_YEARS:
            for month, day in ((1, 1), (2, 28), (6, 15), (12, 31)):
                self.is_no_day(year, month, day)

    def test_years_that_would_be_leap_years(self):
        for year in (1896, 1600, 0, -4, 10000, 10004, 2147483600, LEAST):
            self.is_no_day(year, 2, 29)

    def test_months(self):
        for month in WRONG_MONTHS:
            for year, day in ((1900, 1), (2023, 15), (2024, 31), (9999, 28)):
                self.is_no_day(year, month, day)

    def test_days(self):
        for day in WRONG_DAYS:
            for year, month in itertools.product((1900, 2023, 2024, 9999), range(1, 13)):
                self.is_no_day(year, month, day)

    def test_day_31_of_months_of_30(self):
        for year, month in itertools.product((1900, 1904, 2000, 2023, 2024, 9999), MONTHS_OF_30):
            self.is_no_day(year, month, 31)

    def test_the_days_right_outside(self):
        self.is_no_day(1899, 12, 31)
        self.is_no_day(1900, 1, 0)
        self.is_no_day(9999, 12, 32)
        self.is_no_day(10000, 1, 1)

    def test_two_or_three_wrong_at_once(self):
        for year, month, day in itertools.product(WRONG_YEARS, WRONG_MONTHS, WRONG_DAYS):
            self.is_no_day(year, month, day)
            self.is_no_day(2024, month, day)
            self.is_no_day(year, 1, day)
            self.is_no_day(year, month, 1)

    def test_right_around_each_month(self):
        for year, month in itertools.product(range(1900, 10000), range(1, 13)):
            length = calendar.monthrange(year, month)[1]
            if day_number(year, month, 0) != WRONG_ARGUMENT or day_number(year, month, length + 1) != WRONG_ARGUMENT:
                self.fail(f"month {month} of {year} has a day too many")


if __name__ == "__main__":
    unittest.main()
