"""Sections of days and times, of kind 2, and their limits."""

import unittest

from helper import PictureTest

MOST = {"y": 4, "m": 5, "d": 4, "h": 2, "s": 2}


class Rows(PictureTest):
    def test_ordinary(self):
        self.is_kind(2, "yyyy-mm-dd", "d/m/yy", "dddd\\, mmmm d", "h:mm", "h:mm:ss",
                     "yyyy-mm-dd h:mm:ss", "hh:mm AM/PM", "h A/P", "yyyymmdd", "ymdhs", "mmmmm")

    def test_as_many_letters_as_allowed_and_one_more(self):
        for letter, most in MOST.items():
            for many in range(1, most + 1):
                self.is_kind(2, letter * many, letter.upper() * many)
            for many in (most + 1, most + 2, 100):
                self.is_refused(letter * many, letter.upper() * many)

    def test_large_and_small_letters_are_alike(self):
        self.is_kind(2, "Yy", "yYyY", "mMmMm", "DdDd", "Hh", "sS")
        self.is_refused("yYyYy", "mMmMmM", "DdDdD", "hHh", "SsS")

    def test_rows_that_are_parted(self):
        self.is_kind(2, "yyyy yyyy", "hh hh", "ss ss", 'h""hh', "ss\\sss", "hmhmhm", "hh[hh]hh")
        self.answers("ss[Red]ss", [1, 6, 2])

    def test_other_letters(self):
        for letter in "abcefgijklnopqrtuvwxz":
            self.is_refused(letter, letter.upper(), "d" + letter)


class HalvesOfTheDay(PictureTest):
    def test_large_and_small_letters(self):
        self.is_kind(2, "AM/PM", "am/pm", "Am/pM", "A/P", "a/p", "A/p", "a/P")
        self.is_kind(2, "h AM/PM", "h:mm a/p", "AM/PMA/P", "A/PA/P", "AM/PM AM/PM")

    def test_letters_right_beside(self):
        self.is_kind(2, "mAM/PM", "AM/PMm", "A/Pm", "hA/Ps", "AM/PMmmmmm")
        self.is_refused("AM/PMmmmmmm")

    def test_not_whole(self):
        self.is_refused("AM", "PM", "A", "P", "AM/", "AM/P", "A/", "/P", "A/M", "AM/AM", "AMPM", "A P", "AM-PM", "P/A",
                        "PM/AM", "hA")


class Decimals(PictureTest):
    def test_behind_s(self):
        for part in ("s", "ss", "S", "SS", "[s]", "[S]", "[sss]", "[sssssssss]"):
            self.is_kind(2, part, part + ".0", part + ".00", part + ".000")
            self.is_refused(part + ".", part + ".0000", part + ".00000")

    def test_what_follows_them(self):
        self.is_kind(2, "s.0s.00", "s.0:m", "s.0 ", "[s].000[s].0", "ss.000 AM/PM", 's.0"0"')
        self.is_refused("s.0.", "s.0.0", "s.000.0", "s.0 0", "s.0#", "s.#", "s.?", "s.00#", "s.0,", "s.0%", "s..0")

    def test_only_right_behind(self):
        self.is_refused("s .0", 's"".0', "s[Red].0", "[s] .0", "[s][Red].0", "s:.0", ".0s", "0s", "s0", "[s]0")

    def test_only_behind_s(self):
        self.is_refused("y.0", "m.0", "d.0", "h.0", "[h].0", "[m].0", "AM/PM.0", "A/P.0", "ssm.0")

    def test_before_the_next_section(self):
        self.answers("ss.000;0", [2, 0, 2, 0, 1])
        self.is_refused("ss.;0", "ss.0000;0", "ss;.")
        self.answers("ss;.0", [2, 0, 2, 0, 1])


if __name__ == "__main__":
    unittest.main()
