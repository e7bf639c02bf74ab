"""What the document promises over the whole program: the calls agree with each other, and what is shown is near."""

import fractions
import random
import re
import unittest

from helper import LAST_DAY, bytes_of, number, text
from numberpictures.pictures import date, day_number, show, typed

Fraction = fractions.Fraction

WEEKDAYS = ("Sunday", "Monday", "Tuesday", "Wednesday", "Thursday", "Friday", "Saturday")

# By picture: how much one of its last digit is, an exponent aside.
LAST_DIGITS = {"0": Fraction(1), "0.0": Fraction(1, 10), "0.00": Fraction(1, 100), "#.##": Fraction(1, 100),
               "#,##0": Fraction(1), "#,##0.000": Fraction(1, 1000), "??,??0.0??": Fraction(1, 1000),
               "000,000": Fraction(1), "0.000000000000": Fraction(1, 10 ** 12), "0%": Fraction(1, 100),
               "0.00%": Fraction(1, 10000), "0%%": Fraction(1, 10000), "0,": Fraction(1000),
               "0,,.00": Fraction(10000), "#,##0,.0%": Fraction(1), "0E+0": Fraction(1), "0.00E+00": Fraction(1, 100),
               "##0.0E-0": Fraction(1, 10), "#0.###E+000": Fraction(1, 1000)}

# Pictures with seconds: how many parts of a second one of the last digit is.
SECONDS = {"[s]": 1, "[s].0": 10, "[s].00": 100, "[s].000": 1000}


def shown_text(picture, value):
    return bytes(show(bytes_of(picture), value)[2:]).decode()


def read_shown(picture, shown):
    """The number that a text shown by a picture of digits stands for, and what its exponent makes of a digit."""
    mantissa, _, exponent = re.sub("[, %]", "", shown).partition("E")
    exponent = Fraction(10) ** int(exponent or 0)
    factor = 1000 ** len(re.search(r"0(,*)(\.|%|$|E)", picture.replace("#", "0").replace("?", "0")).group(1))
    read = Fraction(mantissa.rstrip(".") or 0) * exponent * factor / 100 ** picture.count("%")
    return read, exponent


def some_numbers(seed, many, most):
    chosen = random.Random(seed)
    edges = [0, 1, -1, 5 * 10 ** 11, -5 * 10 ** 11, 5 * 10 ** 11 - 1, 10 ** 12, 999 * 10 ** 12 + 999999999999]
    return edges + [chosen.randrange(10 ** chosen.randrange(1, most)) * chosen.choice((1, -1)) for _ in range(many)]


class NearWhatItIs(unittest.TestCase):
    def test_digits_are_off_by_half_of_the_last_at_most(self):
        for picture, last in LAST_DIGITS.items():
            for z in some_numbers(7, 400, 37):
                with self.subTest(picture=picture, z=z):
                    read, exponent = read_shown(picture, shown_text(picture, [1, z]))
                    self.assertLessEqual(abs(read - Fraction(z, 10 ** 12)), last * exponent / 2)

    def test_seconds_are_off_by_half_of_the_last_at_most(self):
        for picture, parts in SECONDS.items():
            for z in some_numbers(8, 400, 18):
                with self.subTest(picture=picture, z=z):
                    read = Fraction(shown_text(picture, [1, abs(z)]))
                    self.assertLessEqual(abs(read - Fraction(abs(z) * 86400, 10 ** 12)), Fraction(1, 2 * parts))


class ReadBack(unittest.TestCase):
    def is_read_back(self, picture, value):
        with self.subTest(picture=picture, value=value):
            shown = show(bytes_of(picture), value)
            self.assertEqual(typed(shown[2:]), [0] + value + [0])

    def test_numbers(self):
        for z in some_numbers(9, 500, 37) + [10 ** 36 - 1, 1 - 10 ** 36]:
            self.is_read_back("General", [1, z])
            self.is_read_back("@", [1, z])
            self.is_read_back("0.000000000000", [1, z])

    def test_other_values(self):
        for picture in ("General", "@", "0", "yyyy"):
            for value in [[0], [3, 0], [3, 1]] + [[4, error] for error in range(1, 9)]:
                self.is_read_back(picture, value)
            for written in ("a", "five", " a b ", "\u00e9\u20ac", "5 apples", "tru"):
                self.is_read_back(picture, text(written))


class OneCalendar(unittest.TestCase):
    def agree(self, day):
        with self.subTest(day=day):
            answer = date(day)
            year, month, of_month, weekday = answer[1:]
            self.assertEqual(day_number(year, month, of_month), [day])
            written = f"{year:04}-{month:02}-{of_month:02}"
            self.assertEqual(shown_text("yyyy-mm-dd dddd", number(day)), f"{written} {WEEKDAYS[weekday]}")
            picture = bytes_of("yyyy-mm-dd")
            for form in (written, f"{of_month}.{month}.{year}", f"{month}/{of_month}/{year}"):
                self.assertEqual(typed(bytes_of(form)), [0] + number(day) + [len(picture)] + picture)

    def test_all_calls_tell_the_same_of_a_day(self):
        for day in list(range(1, 1600)) + list(range(1600, LAST_DAY, 997)) + [LAST_DAY - 1, LAST_DAY]:
            self.agree(day)

    def test_all_calls_refuse_the_same_days(self):
        for year, month, day in ((1900, 2, 29), (2023, 2, 29), (2024, 2, 30), (2024, 4, 31), (2024, 13, 1),
                                 (2024, 0, 1), (2024, 1, 0), (2024, 12, 32), (1899, 12, 31)):
            written = f"{year}-{month}-{day}"
            with self.subTest(day=written):
                self.assertEqual(day_number(year, month, day), [-1])
                self.assertEqual(typed(bytes_of(written)), [0] + text(written) + [0])

    def test_behind_the_last_day(self):
        self.assertEqual(date(LAST_DAY + 1), [-1])
        self.assertEqual(show(bytes_of("yyyy"), number(LAST_DAY + 1)), [-4])

    def test_day_0_is_shown_alone(self):
        self.assertEqual(date(0), [-1])
        self.assertEqual(day_number(1900, 1, 0), [-1])
        self.assertEqual(shown_text("yyyy-m-d dddd", number(0)), "1900-1-0 Sunday")


if __name__ == "__main__":
    unittest.main()
