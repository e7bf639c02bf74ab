"""Sections of digits, of kind 1, and their limits."""

import unittest

from helper import PictureTest


class Digits(PictureTest):
    def test_ordinary(self):
        self.is_kind(1, "0", "#", "?", "0.00", "#,##0", "#,##0.00", "0%", "0.00%", "# ??/??", "$#,##0.00_)", "+0",
                     "000-00-0000", "0.", ".0", ".#", "?.?")

    def test_points(self):
        self.is_kind(1, "0.0", "0.", ".0")
        self.is_refused("0.0.0", "0..0", "..0", "0..", ".0.")

    def test_percents(self):
        self.is_kind(1, "0%", "%0", "0%%%%", "%%%%0", "%0%.%0%", "0.0%%%%")
        self.is_refused("0%%%%%", "%%%%%0", "%%0%.%0%", "%0%0%0%0%")

    def test_places_before_the_point(self):
        for sign in "0#?":
            self.is_kind(1, sign * 24, sign * 24 + ".", sign * 24 + ".0")
            self.is_refused(sign * 25, sign * 25 + ".", sign * 25 + ".0")
        self.is_kind(1, "0#?" * 8, '0" "' * 24)
        self.is_refused("0#?" * 8 + "0", '0" "' * 25)

    def test_commas_before_the_point(self):
        self.is_kind(1, "0,,,,,,,,", "0,0,0,0,0,0,0,0,0", ",,,,,,,,0", "0,,,,,,,,.0", ",0", "0,", ",.0")
        self.is_refused("0,,,,,,,,,", "0,0,0,0,0,0,0,0,0,0", ",,,,,,,,,0", "0,,,,,,,,,.0")

    def test_places_behind_the_point(self):
        for sign in "0#?":
            self.is_kind(1, "0." + sign * 12, "." + sign * 12, "0" * 24 + "." + sign * 12)
            self.is_refused("0." + sign * 13, "." + sign * 13, "0" * 24 + "." + sign * 13)

    def test_comma_behind_the_point(self):
        self.is_refused("0.,", "0.0,", "0.,0", "0.0,0", ".0,", "0,0.0,")

    def test_no_place_at_all(self):
        self.is_refused(".", ",", "%", ".%", ",.", "%%%%", '"0".', "-.", "$,", "[Red]%", "0;.", "\\0%")

    def test_other_digits_are_no_places(self):
        self.is_refused("1", "9", "01", "0.5", "5")


class Exponents(PictureTest):
    def test_ordinary(self):
        self.is_kind(1, "0E+0", "0E-0", "0.00E+00", "##0.0E+0", "0.E+0", "#E+000", "?.?E-0", '0"a".0"b"E+0', "-0E+0")
        self.answers("0E+0;0E-0", [2, 0, 1, 0, 1])

    def test_e_is_large_and_has_a_sign(self):
        self.is_refused("0e+0", "0e-0", "0E0", "0E", "0E 0", "E", "e", "0E*0", '0E"+"0', "0E\\+0", "0E;0")

    def test_one_at_most(self):
        self.is_refused("0E+0E+0", "0E+E+0", "0E-0E+0", "0E+0 0E+0")

    def test_zeros_behind_it(self):
        self.is_kind(1, "0E+0", "0E+00", "0E+000", "0E-000")
        self.is_refused("0E+", "0E-", "0E+0000", "0E-0000", "0E+;0")

    def test_something_else_behind_it(self):
        self.is_refused("0E+#", "0E+?", "0E+0#", "0E+0?", "0E+#0", "0E+0.", "0E+.0", "0E+0.0", "0E+0,", "0E+,0",
                        "0E+0 ", "0E+ 0", "0E+0-", '0E+0"x"', '0E+"x"0', '0E+0""', "0E+0\\x", "0E+0_x", "0E+\u00e9",
                        "0E+0%", "0E+%0", "0E+0@", "0E+0h", "0E+0[h]", "0E+1", "0E+[h]0", "0E+0General")

    def test_colour_or_condition_behind_it(self):
        self.answers("0E+0[Red]", [1, 6, 1])
        self.answers("0E+[Red]0", [1, 6, 1])
        self.answers("0E+0[Red]0", [1, 6, 1])
        self.answers("0E+000[>5]", [1, 0, 1])
        self.answers("0E+[<5]000[Blue]", [1, 2, 1])
        self.is_refused("0E+[Red]", "0E+[>5]", "0E+0000[Red]", "0E+00[Red]00", "[Red]0E+0[Red]", "0E+0[x]")

    def test_a_place_before_the_point(self):
        self.is_refused("E+0", ".E+0", ".0E+0", '"0"E+0', '"0".0E+0', "-E+0")

    def test_commas(self):
        self.is_refused("0,E+0", "0,0E+0", ",0E+0", "#,##0.0E+0", "0,.0E+0", "0.0,E+0")

    def test_percents(self):
        self.is_refused("0%E+0", "%0E+0", "0.0%E+0", "0.%0E+0")

    def test_limits_of_places_before_it(self):
        self.is_kind(1, "0" * 24 + "E+0", "0" * 24 + ".E+0", "0." + "0" * 12 + "E+0")
        self.is_refused("0" * 25 + "E+0", "0" * 25 + ".E+0", "0." + "0" * 13 + "E+0", "0.0.0E+0", "0..E+0")

    def test_its_zeros_are_no_places(self):
        self.is_kind(1, "0" * 24 + "E+000", "0" * 24 + "." + "0" * 12 + "E+000")


if __name__ == "__main__":
    unittest.main()
