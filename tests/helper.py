"""What the tests of pictures share."""

import calendar
import decimal
import unittest

from numberpictures.pictures import check, show, typed

LAST_DAY = 2958464

# The ends of what is handed in as a whole number.
LEAST = -2147483648
MOST = 2147483647

NO_PICTURE = [-3]
WRONG_ARGUMENT = [-1]
CANNOT_SHOW = [-4]


def bytes_of(picture):
    """A picture's bytes as a list; a picture may be written as a text or as bytes."""
    return list(picture.encode("utf-8") if isinstance(picture, str) else picture)


def number(written):
    """The value of a number that is written as a text, or given as a whole number."""
    with decimal.localcontext() as context:
        context.prec = 100
        scaled = decimal.Decimal(written) * 10 ** 12
        if scaled != int(scaled):
            raise AssertionError(f"{written} has more than 12 decimals")
        return [1, int(scaled)]


def text(written):
    codes = bytes_of(written)
    return [2, len(codes)] + codes


def days_in_turn():
    """Every day from 1900 to 9999, by Python's own calendar: its year, month and day."""
    for year in range(1900, 10000):
        for month in range(1, 13):
            for day in range(1, calendar.monthrange(year, month)[1] + 1):
                yield year, month, day


class PictureTest(unittest.TestCase):
    def answers(self, picture, expected):
        with self.subTest(picture=picture):
            self.assertEqual(check(bytes_of(picture)), expected)

    def is_kind(self, kind, *pictures):
        """Each of these is right, of one section of this kind and without a colour."""
        for picture in pictures:
            self.answers(picture, [1, 0, kind])

    def is_refused(self, *pictures):
        for picture in pictures:
            self.answers(picture, NO_PICTURE)


class ShowTest(unittest.TestCase):
    def gives(self, picture, value, expected):
        """The value is answered with just this list."""
        with self.subTest(picture=picture, value=value):
            self.assertEqual(show(bytes_of(picture), value), expected)

    def shows_value(self, picture, value, expected, colour=0):
        """The value is shown as this text, in this colour."""
        with self.subTest(picture=picture, value=value):
            answer = show(bytes_of(picture), value)
            codes = bytes_of(expected)
            told = bytes(answer[2:]).decode("utf-8", "replace")
            self.assertEqual(answer, [colour, len(codes)] + codes, f"it shows {told!r}, not {expected!r}")

    def shows(self, picture, expected_by_number, colour=0):
        """Each of these numbers is shown as the text beside it."""
        for written, expected in expected_by_number.items():
            self.shows_value(picture, number(written), expected, colour)


class TypedTest(unittest.TestCase):
    def reads(self, written, value, picture=""):
        """What is typed is read as this value, with this picture."""
        with self.subTest(written=written):
            codes = bytes_of(picture)
            self.assertEqual(typed(bytes_of(written)), [0] + value + [len(codes)] + codes)

    def reads_number(self, written, expected, picture=""):
        self.reads(written, number(expected), picture)

    def are_texts(self, *many):
        """Each of these is a text, all of it."""
        for written in many:
            self.reads(written, text(written))

    def are_wrong(self, *many):
        for written in many:
            with self.subTest(written=written):
                self.assertEqual(typed(bytes_of(written)), WRONG_ARGUMENT)
