"""show: which section is taken, where a minus stands, and numbers as they are."""

import unittest

from helper import ShowTest, bytes_of, number
from numberpictures.pictures import show

LEAST = "0.000000000001"


def near(written):
    """The number, the next one below it and the next above."""
    z = number(written)[1]
    return [1, z - 1], [1, z], [1, z + 1]


class Choice(ShowTest):
    def takes(self, picture, taken_by_number):
        """Each number is shown in the colour of the section that is taken."""
        for written, colour in taken_by_number.items():
            with self.subTest(picture=picture, number=written):
                self.assertEqual(show(bytes_of(picture), number(written))[0], colour)

    def test_one_section(self):
        self.takes("[Red]0", {"-5": 6, "-" + LEAST: 6, "0": 6, LEAST: 6, "5": 6})

    def test_two_sections(self):
        self.takes("[Red]0;[Blue]0", {"-5": 2, "-" + LEAST: 2, "0": 6, LEAST: 6, "5": 6})

    def test_three_sections(self):
        self.takes("[Red]0;[Blue]0;[Cyan]0", {"-5": 2, "-" + LEAST: 2, "0": 3, LEAST: 6, "5": 6})

    def test_the_section_of_texts_is_not_one_of_them(self):
        self.takes("[Red]0;[White]@", {"-5": 6, "0": 6, "5": 6})
        self.takes("[Red]0;[Blue]0;[White]@", {"-5": 2, "0": 6, "5": 6})
        self.takes("[Red]0;[Blue]0;[Cyan]0;[White]@", {"-5": 2, "0": 3, "5": 6})
        self.takes("[Red]0;[Blue]0;[Cyan]0;[White]", {"-5": 2, "0": 3, "5": 6})

    def test_a_condition_in_one_section(self):
        self.takes("[Red][>5]0", {"-6": 0, "0": 0, "5": 0, "6": 6})
        self.takes("[Red][<0]0;[White]@", {"-6": 6, "0": 0, "5": 0})

    def test_a_condition_in_the_first_of_two(self):
        self.takes("[Red][>5]0;[Blue]0", {"-6": 2, "0": 2, "5": 2, "6": 6})
        self.takes("[Red][<0]0;[Blue]0", {"-6": 6, "0": 2, "5": 2})

    def test_a_condition_in_the_second_of_two(self):
        self.takes("[Red]0;[Blue][<-5]0", {"-6": 2, "-5": 0, "0": 6, "5": 6})
        self.takes("[Red]0;[Blue][>5]0", {"-6": 0, "0": 6, "6": 6})

    def test_conditions_in_both(self):
        self.takes("[Red][>5]0;[Blue][<3]0", {"6": 6, "5": 0, "4": 0, "3": 0, "2": 2, "-9": 2})
        self.takes("[Red][>5]0;[Blue][>3]0", {"6": 6, "5": 2, "4": 2, "3": 0})
        self.takes("[Red][>=0]0;[Blue][>=0]0", {"0": 6, "-1": 0})

    def test_conditions_among_three(self):
        self.takes("[Red][>5]0;[Blue]0;[Cyan]0", {"6": 6, "5": 3, "0": 3, "-1": 2})
        self.takes("[Red]0;[Blue][<-5]0;[Cyan]0", {"6": 6, "0": 3, "-5": 3, "-6": 2})
        self.takes("[Red][>5]0;[Blue][>3]0;[Cyan]0", {"6": 6, "4": 2, "3": 3, "0": 3, "-1": 3})
        self.takes("[Red][<0]0;[Blue]0;[Cyan]0", {"6": 3, "0": 3, "-1": 6})

    def test_conditions_of_three_and_texts(self):
        self.takes("[Red][>5]0;[Blue][>3]0;[Cyan]0;[White]@", {"6": 6, "4": 2, "3": 3, "-1": 3})
        self.takes("[Red][>5]0;[Blue][>3]0;[White]@", {"6": 6, "4": 2, "3": 0, "-1": 0})

    def test_a_condition_of_the_section_of_texts_is_not_asked(self):
        self.takes("[Red]0;[Blue][>5]@", {"6": 6, "-1": 6})
        self.shows("[>5][Blue]@", {"6": "6", "-1": "-1"})

    def test_each_comparison_at_below_and_above_its_number(self):
        rows = {"<": (1, 0, 0), "<=": (1, 1, 0), ">": (0, 0, 1), ">=": (0, 1, 1), "=": (0, 1, 0), "<>": (1, 0, 1)}
        limits = ("0", "-0", "5", "-5", "0.000000000001", "-2.5", "9" * 23, "00000007", "1.500000000000", "-1.5")
        for limit in limits:
            for sign, holds in rows.items():
                for value, colour in zip(near(limit), holds):
                    # The first section has a condition, so that a minus stands there.
                    shown = ("-x" if value[1] < 0 else "x") if colour else "y"
                    self.shows_value(f'[{sign}{limit}][Black]"x";"y"', value, shown, colour)

    def test_the_greatest_limits(self):
        most = "9" * 24 + "." + "9" * 12
        self.shows_value(f'[={most}]"x"', [1, 10 ** 36 - 1], "x")
        self.shows_value(f'[<{most}]"x"', [1, 10 ** 36 - 2], "x")
        self.shows_value(f'[<{most}]"x"', [1, 10 ** 36 - 1], most)
        self.shows_value(f'[=-{most}]"x"', [1, 1 - 10 ** 36], "-x")

    def test_the_condition_asks_the_number_before_it_is_rounded(self):
        self.shows('[<1]"less";"more"', {"0.999999999999": "less", "1": "more"})
        self.shows('[=1]0"!";0"?"', {"1": "1!", "0.999999999999": "1?", "1.000000000001": "1?"})

    def test_none_that_fits(self):
        self.shows("[Red][>5]0.00", {"5": "5", "-1.5": "-1.5", "0": "0", "0.25": "0.25"})
        self.shows("[Red]0;[Blue][<-5]0", {"-2.5": "-2.5"})

    def test_no_section_of_numbers(self):
        self.shows("@", {"5": "5", "-5.25": "-5.25", "0": "0", LEAST: LEAST})
        self.shows('[Red]"a"@', {"5": "5", "-5.25": "-5.25", "0": "0"})


class Minus(ShowTest):
    def test_one_section_of_each_kind(self):
        self.shows('"x"', {"-5": "-x", "0": "x", "5": "x"})
        self.shows("", {"-5": "-", "0": "", "5": ""})
        self.shows("0.0", {"-5": "-5.0", "0": "0.0", "5": "5.0"})
        self.shows("0.0E+0", {"-5": "-5.0E+0", "0": "0.0E+0", "5": "5.0E+0"})
        self.shows("General", {"-5": "-5", "0": "0", "5": "5"})

    def test_it_stands_in_front_of_all(self):
        self.shows('"a"0', {"-5": "-a5"})
        self.shows("$ #,##0", {"-1234": "-$ 1,234"})
        self.shows("??0", {"-5": "-  5"})
        self.shows('"a"General"b"', {"-5": "-a5b"})
        self.shows('"a"0E+0', {"-5": "-a5E+0"})
        self.shows("[Red](0)", {"-5": "-(5)"}, 6)

    def test_not_in_the_second_section_without_a_condition(self):
        for picture, shown in (('0;"x"', "x"), ("0;0.0", "5.0"), ("0;General", "5"), ("0;0E+0", "5E+0"), ("0;", ""),
                               ("0;(0)", "(5)"), ("0;0.0;0", "5.0"), ("0;0.0;0;@", "5.0"), ("0;0.0;@", "5.0")):
            self.shows(picture, {"-5": shown})
        self.shows("[>5]0;0.0", {"-5": "5.0", "5": "5.0"})
        self.shows("[>5]0;0.0;0", {"-5": "5.0", "5": "5"})

    def test_in_the_second_section_with_a_condition(self):
        for picture, shown in (('0;[<0]"x"', "-x"), ("0;[<0]0.0", "-5.0"), ("0;[<0]General", "-5"),
                               ("0;[<0]0E+0", "-5E+0"), ("0;[<0]", "-"), ("0;[<0]0.0;0", "-5.0"),
                               ("[>9]0;[<9]0.0", "-5.0"), ("0;[<0]0.0;@", "-5.0")):
            self.shows(picture, {"-5": shown})

    def test_in_the_first_section_with_a_condition(self):
        self.shows("[<0]0.0;0", {"-5": "-5.0", "5": "5"})
        self.shows('[<0]"x";0', {"-5": "-x"})

    def test_in_the_third_section(self):
        self.shows("0;[<-9]0;0.0", {"-5": "-5.0", "-10": "-10", "0": "0.0"})
        self.shows('[>9]0;[>5]0;"x"', {"-5": "-x", "0": "x"})
        self.shows("[>9]0;[>5]0;General", {"-5": "-5", "0": "0"})

    def test_not_where_all_digits_that_are_shown_are_0(self):
        self.shows("0", {"-0.4": "0", "-0.5": "-1", "-" + LEAST: "0"})
        self.shows("#", {"-0.4": "", "-0.5": "-1"})
        self.shows("?", {"-0.4": " ", "-0.5": "-1"})
        self.shows("0.00", {"-0.004": "0.00", "-0.005": "-0.01"})
        self.shows(".##", {"-0.004": ".", "-0.005": "-.01"})
        self.shows("?.??", {"-0.004": " .  "})
        self.shows("#%", {"-0.004": "%", "-0.005": "-1%"})
        self.shows("0,", {"-499": "0", "-500": "-1"})
        self.shows("0;[<0]0", {"-0.4": "0", "-0.5": "-1"})
        self.shows('"a"0"b"', {"-0.4": "a0b"})
        self.shows('0"5"', {"-0.4": "05"})
        self.shows(".00", {"-5": ".00", "-5.01": "-.01"})

    def test_an_exponents_digits_do_not_count(self):
        self.shows("0E+0", {"-0.00001": "-1E-5", "-50": "-5E+1", "-1": "-1E+0"})
        self.shows("#.#E+0", {"-" + LEAST: "-1.E-12"})
        self.shows("0E+0", {"0": "0E+0"})

    def test_where_texts_alone_or_the_number_as_it_is_are_shown_it_stays(self):
        self.shows('"0"', {"-" + LEAST: "-0"})
        self.shows("General", {"-" + LEAST: "-" + LEAST})


class AsItIs(ShowTest):
    NUMBERS = {"0": "0", "1": "1", "10": "10", "0.5": "0.5", "0.1": "0.1", "1.5": "1.5", "100": "100", "12.50": "12.5",
               "0.000000000001": "0.000000000001", "0.000000000010": "0.00000000001", "1.100000000000": "1.1",
               "7.000000000007": "7.000000000007", "1000.001000": "1000.001", "123456789012.120000000000":
               "123456789012.12", "999999999999999999999999.999999999999": "999999999999999999999999.999999999999",
               "100000000000000000000000": "100000000000000000000000"}

    def below(self):
        return {"-" + written: "-" + shown for written, shown in self.NUMBERS.items() if written != "0"}

    def test_general(self):
        self.shows("General", self.NUMBERS)
        self.shows("General", self.below())
        self.shows("gENERAL", self.NUMBERS)

    def test_without_a_section(self):
        self.shows("@", self.NUMBERS)
        self.shows("@", self.below())
        self.shows("[=3]0", self.NUMBERS)

    def test_general_beside_texts(self):
        self.shows('"a "General" b"', {"1.5": "a 1.5 b", "-1.5": "-a 1.5 b", "0": "a 0 b"})
        self.shows("$General_)", {"1.5": "$1.5 "})
        self.shows('General;"minus "General', {"-2.50": "minus 2.5"})
        self.shows("[Red]General", {"2": "2"}, 6)


if __name__ == "__main__":
    unittest.main()
