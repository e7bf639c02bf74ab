"""Characters that stand for themselves, those behind a sign or in quotes, UTF-8, and the number of bytes."""

import unittest

from helper import PictureTest, bytes_of
from numberpictures.pictures import check

PLAIN = " !$&'()+-/:<=>^{}~"

# What else among the first 128 is right by itself, by its kind.
RIGHT_ALONE = {"0": 1, "#": 1, "?": 1, "@": 3}
RIGHT_ALONE.update({letter: 2 for letter in "ymdhsYMDHS"})

ILL_MADE = (
    b"\x80", b"\xbf", b"\xc3", b"\xe2\x82", b"\xe2", b"\xf0\x9f\x98", b"\xf0\x9f", b"\xf0",
    b"\xc0\x80", b"\xc1\xbf", b"\xe0\x80\x80", b"\xe0\x9f\xbf", b"\xf0\x80\x80\x80", b"\xf0\x8f\xbf\xbf",
    b"\xed\xa0\x80", b"\xed\xaf\xbf", b"\xed\xb0\x80", b"\xed\xbf\xbf", b"\xed\xa0\xbd\xed\xb8\x80",
    b"\xf4\x90\x80\x80", b"\xf5\x80\x80\x80", b"\xf7\xbf\xbf\xbf", b"\xf8\x88\x80\x80\x80",
    b"\xfc\x84\x80\x80\x80\x80", b"\xfe", b"\xff", b"\xc3\x28", b"\xc3\xc3", b"\xe2\x28\xa1", b"\xe2\x82\x28",
    b"\xf0\x28\x8c\xbc", b"\xf0\x90\x28\xbc", b"\xf0\x90\x8c\x28", b"\xc3\xa9\xa9", b"\xe2\x82\xc0",
)

WELL_MADE = ("\u0080", "\u00e9", "\u07ff", "\u0800", "\u20ac", "\ud7ff", "\ue000", "\ufeff", "\uffff",
             "\U00010000", "\U0001f600", "\U0010ffff")


class StandingForThemselves(PictureTest):
    def test_each_of_the_first_128(self):
        for code in range(128):
            sign = chr(code)
            if sign in PLAIN:
                self.is_kind(0, sign)
                self.is_kind(1, sign + "0" + sign)
            elif sign in RIGHT_ALONE:
                self.is_kind(RIGHT_ALONE[sign], sign)
            elif sign != ";":
                self.is_refused(sign)

    def test_all_of_them_at_once(self):
        self.is_kind(0, PLAIN)
        self.is_kind(1, PLAIN + "0" + PLAIN)

    def test_signs_that_are_not_right(self):
        self.is_refused("*", "`", "|", "0*", "`0", "0|0", "\x7f", "\t0", "0\n", "\x00", "5", "0 5")

    def test_beyond_127(self):
        for character in WELL_MADE:
            self.is_kind(0, character)
            self.is_kind(1, character + "0" + character)
            self.is_kind(2, f"yyyy{character}m")


class BehindSignsAndInQuotes(PictureTest):
    def test_each_character_behind_a_sign(self):
        for sign in "\\_":
            for code in range(128):
                self.is_kind(0, sign + chr(code))
            for character in WELL_MADE:
                self.is_kind(0, sign + character)
                self.is_kind(1, f"{sign}{character}0")
                self.answers(f"{sign}{character};@", [2, 0, 0, 0, 3])

    def test_nothing_behind_a_sign(self):
        self.is_refused("\\", "_", "0\\", "0_", "\\\\\\", "___", "0;\\", '"a"_')

    def test_only_one_character_behind_a_sign(self):
        self.is_refused("\\ab", "_ab", "\\\\a")
        self.is_kind(1, "\\a0", "_a0", "\\00", "_00")
        self.is_kind(0, "\\0", "_0", "\\@", "_h")

    def test_each_character_in_quotes(self):
        for code in range(128):
            if chr(code) != '"':
                self.is_kind(0, f'"{chr(code)}"')
        for character in WELL_MADE:
            self.is_kind(0, f'"{character}"')
        self.is_kind(0, '""', '"a""b"', '"General 0 @ h [x"')

    def test_quotes_not_closed(self):
        self.is_refused('"', '"a', '0"', '"a""', '0;"', '";', '"a\\""', '"a_"b', '"""')
        self.is_kind(0, '"a\\"', '"a_"')


class Utf8(PictureTest):
    def test_ill_made(self):
        for wrong in ILL_MADE:
            self.is_refused(wrong, b"0" + wrong, wrong + b"0", b'"' + wrong + b'"', b"\\" + wrong, b"_" + wrong,
                            wrong + b";0", b"0;" + wrong, b"0;0;0;\\" + wrong)

    def test_sign_before_a_byte_within_a_character(self):
        self.is_refused(b"\xc3\\\xa9", b"\xe2\x82\\\xac", b'\xc3"\xa9"', b"\xc3;\xa9")

    def test_two_bytes_as_python_reads_them(self):
        for first in range(128, 256):
            for second in range(256):
                picture = [34, first, second, 34]
                self.assertEqual(check(picture), self.as_python_reads(picture), picture)

    def test_edges_of_three_and_four_bytes_as_python_reads_them(self):
        edges = (0x00, 0x7f, 0x80, 0x8f, 0x90, 0x9f, 0xa0, 0xbf, 0xc0, 0xff)
        for first in range(0xe0, 0x100):
            for second in edges:
                for third in edges:
                    for picture in ([34, first, second, third, 34], [34, first, second, third, 0x80, 34],
                                    [34, first, second, third, 0xc0, 34]):
                        self.assertEqual(check(picture), self.as_python_reads(picture), picture)

    def as_python_reads(self, picture):
        try:
            bytes(picture).decode("utf-8")
        except UnicodeDecodeError:
            return [-3]
        return [1, 0, 0]


class HowManyBytes(PictureTest):
    def test_255_and_256(self):
        self.is_kind(0, " " * 255, '"' + "x" * 253 + '"', "\\x" * 127 + " ")
        self.is_refused(" " * 256, '"' + "x" * 254 + '"', "\\x" * 128)

    def test_bytes_are_counted_not_characters(self):
        self.is_kind(0, "\u00e9" * 127 + " ", "\u20ac" * 85)
        self.is_refused("\u00e9" * 128, "\u20ac" * 85 + " ", "\U0001f600" * 64)

    def test_65535(self):
        for sign in (" ", "0", "\\", '"', "[", ";", "@", "y", "\u00e9"):
            picture = bytes_of(sign * 65535)[:65535]
            self.assertEqual(check(picture), [-3], sign)


if __name__ == "__main__":
    unittest.main()
