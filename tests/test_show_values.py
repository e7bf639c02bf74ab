"""show: its refusals and their order, and values that aren't numbers."""

import unittest

from helper import CANNOT_SHOW, NO_PICTURE, WRONG_ARGUMENT, ShowTest, number, text

# A picture of each kind, by the kind's number.
OF_KIND = ('"x"', "0.0", "yyyy-mm-dd", "@", "General")

ERROR_NAMES = ("#DIV/0!", "#VALUE!", "#REF!", "#NAME?", "#NUM!", "#N/A", "#RING!", "#ROOM!")

WRONG_VALUES = ([1, 10 ** 36], [1, -10 ** 36], [1, 2 ** 127 - 1], [1, -2 ** 127], text("x" * 4097), text(b"\xff"),
                [4, 0], [4, 9], [4, 2147483647])


class Refusals(ShowTest):
    def test_no_picture(self):
        for picture in ("x", "[", "0.0.0", "0;0;0;0", " " * 256, b"\xff", ";;;;", '"'):
            for value in ([0], [1, 0], text("a"), [3, 1], [4, 1]):
                self.gives(picture, value, NO_PICTURE)

    def test_no_picture_comes_before_a_wrong_value(self):
        for value in WRONG_VALUES:
            self.gives("x", value, NO_PICTURE)
            self.gives([65] * 65535, value, NO_PICTURE)

    def test_wrong_values_by_each_kind(self):
        for value in WRONG_VALUES:
            for picture in OF_KIND + ("", "[Red]0;;;@"):
                self.gives(picture, value, WRONG_ARGUMENT)

    def test_a_wrong_value_comes_before_what_cannot_be_shown(self):
        for z in (10 ** 36, -10 ** 36, 2 ** 127 - 1, -2 ** 127):
            self.gives("h:mm", [1, z], WRONG_ARGUMENT)
        self.gives("h:mm", [1, 10 ** 36 - 1], CANNOT_SHOW)
        self.gives("h:mm", [1, 1 - 10 ** 36], CANNOT_SHOW)

    def test_limits_of_numbers(self):
        self.shows_value("General", [1, 10 ** 36 - 1], "9" * 24 + "." + "9" * 12)
        self.shows_value("General", [1, 1 - 10 ** 36], "-" + "9" * 24 + "." + "9" * 12)
        for z in (10 ** 36, 10 ** 36 + 1, -10 ** 36, -10 ** 36 - 1, 2 ** 127 - 1, -2 ** 127):
            self.gives("General", [1, z], WRONG_ARGUMENT)

    def test_limits_of_texts(self):
        self.shows_value("0", text(""), "")
        self.shows_value("0", text("a" * 4096), "a" * 4096)
        self.shows_value("0", text("\u00e9" * 2048), "\u00e9" * 2048)
        for long in ("a" * 4097, "\u00e9" * 2049, "a" * 7990):
            self.gives("0", text(long), WRONG_ARGUMENT)
            self.gives('0;0;0;"x"', text(long), WRONG_ARGUMENT)

    def test_texts_that_are_not_well_made(self):
        for wrong in (b"\x80", b"a\xc3", b"\xc0\x80", b"\xe0\x80\x80", b"\xed\xa0\x80", b"\xf4\x90\x80\x80", b"\xf8a",
                      b"\xc3\xa9\xc3"):
            self.gives("@", text(wrong), WRONG_ARGUMENT)
            self.gives("0", text(wrong), WRONG_ARGUMENT)
            self.gives(";;;", text(wrong), WRONG_ARGUMENT)

    def test_limits_of_errors(self):
        for wrong in (0, 9, 10, 255, 2147483647):
            self.gives("0", [4, wrong], WRONG_ARGUMENT)


class Others(ShowTest):
    PICTURES = OF_KIND + ("", ";;;", "[Red]0;[Blue]0;[Green]0;[White]@", "[Red]@", "[>5][Cyan]0", "[Red]General",
                          "[Blue]h:mm", '[Black]"x"')

    def test_empty_shows_nothing(self):
        for picture in self.PICTURES:
            self.gives(picture, [0], [0, 0])

    def test_truths(self):
        for picture in self.PICTURES:
            self.shows_value(picture, [3, 1], "TRUE")
            self.shows_value(picture, [3, 0], "FALSE")

    def test_errors(self):
        for picture in self.PICTURES:
            for code, name in enumerate(ERROR_NAMES, start=1):
                self.shows_value(picture, [4, code], name)

    def test_a_number_by_a_picture_of_each_kind(self):
        for picture, shown in zip(OF_KIND, ("x", "2.5", "1900-01-02", "2.5", "2.5")):
            self.shows_value(picture, number("2.5"), shown)

    def test_a_text_by_a_picture_of_each_kind(self):
        for picture in OF_KIND:
            self.shows_value(picture, text("a b"), "a b")


class Texts(ShowTest):
    def test_the_fourth_section(self):
        self.shows_value("0;0;0;@", text("abc"), "abc")
        self.shows_value('0;0;0;"<"@">"', text("abc"), "<abc>")
        self.shows_value('0;0;0;"none"', text("abc"), "none")
        self.shows_value("0;0;0;", text("abc"), "")
        self.shows_value(";;;", text("abc"), "")

    def test_a_last_section_with_the_place_of_a_text(self):
        self.shows_value('"<"@">"', text("abc"), "<abc>")
        self.shows_value('0;"<"@">"', text("abc"), "<abc>")
        self.shows_value('0;0;"<"@">"', text("abc"), "<abc>")
        self.shows_value('[>5]"<"@">"', text("abc"), "<abc>")

    def test_no_section_of_texts(self):
        for picture in ("", "0", '"x"', "0;0", '0;0;"x"', ";", ";;", '"x";"y"', "General;h", "[Red]0", "[Red];[Blue];"):
            self.shows_value(picture, text("abc"), "abc")

    def test_several_places(self):
        self.shows_value("@@", text("ab"), "abab")
        self.shows_value("@ @/@", text("ab"), "ab ab/ab")
        self.shows_value("0;@-@", text("\u00e9"), "\u00e9-\u00e9")
        self.shows_value("@@@", text(""), "")
        self.shows_value("@" * 255, text("a" * 4096), "a" * (4096 * 255))

    def test_colours(self):
        self.shows_value("[Red]@", text("a"), "a", 6)
        self.shows_value("[Red]0;[Blue]@", text("a"), "a", 2)
        self.shows_value("[Red]0;@", text("a"), "a", 0)
        self.shows_value("[Red]0;;;[Yellow]", text("a"), "", 8)
        self.shows_value('0;;;@[Green]"x"', text("a"), "ax", 4)

    def test_texts_around_the_place(self):
        self.shows_value('\\@@_@"@" !$&\'()+-/:<=>^{}~\u20ac', text("t"), "@t @ !$&'()+-/:<=>^{}~\u20ac")
        self.shows_value("\\\u20ac_\u20ac@", text("t"), "\u20ac t")

    def test_a_text_is_not_read_as_a_picture(self):
        self.shows_value("@", text('0.00;[Red]"@"%'), '0.00;[Red]"@"%')

    def test_a_text_keeps_its_blanks_and_zero_bytes(self):
        self.shows_value("(@)", text(" a\0\n "), "( a\0\n )")


class SectionsTexts(ShowTest):
    """What texts show in sections of numbers."""

    def test_quotes_backslash_and_underscore(self):
        self.shows('"a;b["', {"5": "a;b["})
        self.shows('""', {"5": ""})
        self.shows("\\\"\\\\\\;\\[_x_\"", {"5": '"\\;[  '})
        self.shows("\\\u00e9_\u00e9\u20ac\U0001f600", {"5": "\u00e9 \u20ac\U0001f600"})
        self.shows("_\U0001f6000_)", {"5": " 5 "})

    def test_what_stands_for_itself(self):
        self.shows(" !$&'()+-/:<=>^{}~", {"5": " !$&'()+-/:<=>^{}~"})
        self.shows("$0 (+)", {"5": "$5 (+)"})

    def test_colours_and_conditions_show_nothing(self):
        self.shows("[Red]0[>1]", {"5": "5"}, 6)
        self.shows("0[>1]0[red]0", {"5": "005"}, 6)
        for at, colour in enumerate(("Black", "Blue", "Cyan", "Green", "Magenta", "Red", "White", "Yellow"), start=1):
            self.shows(f"[{colour}]0", {"5": "5"}, at)
            self.shows(f"[{colour}]", {"5": ""}, at)


if __name__ == "__main__":
    unittest.main()
