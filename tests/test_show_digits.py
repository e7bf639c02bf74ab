"""show: sections of digits."""

import unittest

from helper import ShowTest, number

GREATEST = "999999999999999999999999.999999999999"


class BeforeThePoint(ShowTest):
    def test_zeros(self):
        self.shows("0", {"0": "0", "7": "7", "12": "12", "12345": "12345"})
        self.shows("000", {"0": "000", "7": "007", "12": "012", "123": "123", "1234": "1234", "12345": "12345"})

    def test_number_signs(self):
        self.shows("#", {"0": "", "7": "7", "12": "12"})
        self.shows("###", {"0": "", "7": "7", "12": "12", "123": "123", "12345": "12345"})

    def test_question_marks(self):
        self.shows("?", {"0": " ", "7": "7", "12": "12"})
        self.shows("???", {"0": "   ", "7": "  7", "12": " 12", "123": "123", "12345": "12345"})

    def test_mixed_order(self):
        self.shows("#?0", {"0": " 0", "7": " 7", "12": "12", "123": "123", "1234": "1234"})
        self.shows("0?#", {"0": "0 ", "7": "0 7", "12": "012", "123": "123", "1234": "1234"})
        self.shows("0#?", {"0": "0 ", "7": "07", "12": "012"})
        self.shows("?#0", {"0": " 0", "7": " 7", "12": " 12"})
        self.shows("0##", {"0": "0", "7": "07", "12": "012", "123": "123"})

    def test_texts_and_percents_between(self):
        self.shows("000-00-0000", {"123456789": "123-45-6789", "6789": "000-00-6789", "99123456789": "99123-45-6789"})
        self.shows("###-##-####", {"123456789": "123-45-6789", "6789": "--6789", "0": "--"})
        self.shows('0"a"0"b"', {"5": "0a5b", "123": "12a3b"})
        self.shows("0%0", {"1.23": "12%3", "0": "0%0"})
        self.shows('"a"#"b"?"c"', {"0": "ab c", "5": "ab5c", "56": "a5b6c"})
        self.shows("0_)0\\-", {"12": "1 2-"})

    def test_no_place(self):
        # There is no place for the whole part's digits, so none of them is shown.
        self.shows(".00", {"0": ".00", "0.25": ".25", "12.34": ".34", "5": ".00", "0.996": ".00"})
        self.shows(".##", {"0": ".", "0.25": ".25", "12.5": ".5", "7": "."})
        self.shows('"a".?', {"0": "a. ", "3.5": "a.5"})
        self.shows("%.0", {"0.005": "%.5"})

    def test_the_most_places(self):
        self.shows("0" * 24, {"5": "0" * 23 + "5", "123456789012345678901234": "123456789012345678901234"})
        self.shows("0" * 24 + "." + "0" * 12, {GREATEST: GREATEST, "-" + GREATEST: "-" + GREATEST})
        self.shows("?" * 24, {"5": " " * 23 + "5"})
        self.shows("#" * 24, {"5": "5"})


class BehindThePoint(ShowTest):
    def test_zeros(self):
        self.shows("0.00", {"0": "0.00", "1": "1.00", "1.5": "1.50", "1.25": "1.25", "0.05": "0.05"})
        self.shows("0.000000000000", {"0.000000000001": "0.000000000001", "1": "1.000000000000"})

    def test_number_signs(self):
        self.shows("0.##", {"0": "0.", "1": "1.", "1.5": "1.5", "1.25": "1.25", "0.05": "0.05", "1.001": "1."})

    def test_question_marks(self):
        self.shows("0.??", {"0": "0.  ", "1.5": "1.5 ", "1.25": "1.25", "0.05": "0.05", "1.001": "1.  "})

    def test_mixed_order(self):
        self.shows("0.0#?", {"0": "0.0 ", "1.5": "1.5 ", "1.25": "1.25 ", "1.125": "1.125"})
        self.shows("0.#0", {"0": "0.0", "1.5": "1.50", "1.05": "1.05"})
        self.shows("0.?#0", {"0": "0. 0", "1.5": "1.50", "1.05": "1.050", "1.005": "1.005"})
        self.shows("0.0##", {"7": "7.0", "7.005": "7.005", "7.1": "7.1"})

    def test_texts_and_percents_between(self):
        self.shows('0.0"a"0', {"1.25": "1.2a5"})
        self.shows('0"a".#"b"#"c"', {"1": "1a.bc", "1.5": "1a.5bc"})
        self.shows("0.0%0", {"0.0125": "1.2%5"})
        self.shows("0. 0", {"1.5": "1. 5"})

    def test_a_point_without_places(self):
        self.shows("0.", {"0": "0.", "5": "5.", "5.5": "6.", "5.4": "5."})
        self.shows("#.", {"0": ".", "5": "5."})
        self.shows('0."a"', {"5": "5.a"})


class Rounding(ShowTest):
    def test_halves_go_up(self):
        self.shows("0", {"0.5": "1", "1.5": "2", "2.5": "3", "0.499999999999": "0", "-0.5": "-1", "-1.5": "-2",
                         "-2.5": "-3", "-2.499999999999": "-2"})
        self.shows("0.0", {"0.05": "0.1", "0.15": "0.2", "0.25": "0.3", "0.249999999999": "0.2", "-0.25": "-0.3"})
        self.shows("0." + "0" * 11, {"0.000000000005": "0.00000000001", "0.000000000004": "0.00000000000"})

    def test_one_digit_more(self):
        self.shows("0", {"9.5": "10", "99.5": "100"})
        self.shows("0.0", {"9.95": "10.0", "0.95": "1.0", "9.94": "9.9"})
        self.shows("#.#", {"0.96": "1.", "99.99": "100."})
        self.shows("00", {"99.5": "100"})
        self.shows("0", {GREATEST: "1" + "0" * 24, "-" + GREATEST: "-1" + "0" * 24})
        self.shows("#,##0", {"999.5": "1,000", GREATEST: "1" + ",000" * 8})

    def test_once_alone(self):
        self.shows("0", {"0.49": "0", "0.45": "0"})
        self.shows("0%", {"0.00499": "0%", "0.005": "1%"})
        self.shows("0,", {"499.999": "0", "499.999999999999": "0", "500": "1"})


class Percents(ShowTest):
    def test_one_to_four(self):
        self.shows("0%", {"0": "0%", "0.5": "50%", "0.125": "13%", "-0.125": "-13%", "12": "1200%"})
        self.shows("0%%", {"0.5": "5000%%"})
        self.shows("0%%%", {"0.5": "500000%%%"})
        self.shows("0%%%%", {"0.5": "50000000%%%%", "0.000000000001": "0%%%%", "0.000000005": "1%%%%"})

    def test_anywhere(self):
        self.shows("%0", {"0.5": "%50"})
        self.shows("%0.0%", {"0.5": "%5000.0%"})
        self.shows("0.0%", {"0.1234": "12.3%", "0.12345": "12.3%", "0.1235": "12.4%"})

    def test_in_quotes_it_is_a_text(self):
        self.shows('0"%"', {"0.5": "1%"})
        self.shows("0\\%", {"2": "2%"})
        self.shows("0_%", {"2": "2 "})

    def test_the_greatest(self):
        self.shows("0%%%%", {GREATEST: "1" + "0" * 32 + "%%%%"})
        self.shows("0.0000%%%%", {GREATEST: "9" * 32 + ".9999%%%%"})


class Groups(ShowTest):
    def test_ordinary(self):
        self.shows("#,##0", {"0": "0", "5": "5", "999": "999", "1000": "1,000", "12345": "12,345", "123456": "123,456",
                             "1234567": "1,234,567", "-1234": "-1,234", "1234567890": "1,234,567,890"})
        self.shows("#,##0.00", {"1234.5": "1,234.50", "0.5": "0.50", "999.995": "1,000.00"})

    def test_one_comma_serves_all(self):
        for picture in ("#,##0", "#,#", "0,0", "##,0", "#,#,#", "#,,0", "#,###,###,##0"):
            self.shows(picture, {"1234567": "1,234,567"})

    def test_with_zeros(self):
        self.shows("0,000", {"0": "0,000", "5": "0,005", "1234": "1,234", "1234567": "1,234,567"})
        self.shows("000,000", {"5": "000,005", "1234": "001,234"})
        self.shows("0,0", {"5": "05", "12": "12", "1234": "1,234"})
        self.shows("0000,000", {"5": "0,000,005"})
        self.shows("00,0000", {"5": "000,005"})

    def test_with_number_signs(self):
        self.shows("#,###", {"0": "", "5": "5", "1234": "1,234"})
        self.shows("#,000", {"5": "005", "1234": "1,234"})
        self.shows("###,###", {"5": "5", "1234": "1,234"})
        # Places that show nothing don't count: two digits alone are behind the first 0.
        self.shows("0,###", {"5": "05", "12": "012", "123": "0,123", "0": "0"})
        self.shows("0,#00", {"5": "005", "123": "0,123"})

    def test_with_question_marks(self):
        self.shows("?,???", {"0": "     ", "5": "    5", "123": "  123", "1234": "1,234", "1234567": "1,234,567"})
        self.shows("???,???", {"5": "      5", "12345": " 12,345", "1234": "  1,234"})
        self.shows("?,000", {"5": "  005", "1234": "1,234"})
        self.shows("0,???", {"5": "0,  5", "12": "0, 12"})
        self.shows("?,?#0", {"5": "  5", "12": "   12", "123": "  123"})
        self.shows("#,???", {"5": "  5", "1234": "1,234"})
        self.shows("0?,???", {"5": "0    5", "1234": "01,234"})
        self.shows("?0,000", {"5": " 0,005"})

    def test_the_comma_stands_right_behind_the_digit(self):
        self.shows('0"x",000', {"1234": "1,x234", "5": "0,x005"})
        self.shows('0,"x"000', {"1234": "1,x234"})
        self.shows('0,0"a"0"b"0', {"1234": "1,2a3b4", "12345": "12,3a4b5", "1234567": "1,234,5a6b7"})
        self.shows('?"x",???', {"5": "  x  5"})
        self.shows("0,0%00", {"12.34": "1,2%34", "1234.56": "123,4%56"})

    def test_decimals_are_not_counted(self):
        self.shows("#,##0.0000", {"1234567.8912": "1,234,567.8912", "5.1234": "5.1234"})

    def test_the_greatest(self):
        self.shows("#,##0." + "0" * 12, {GREATEST: "999" + ",999" * 7 + "." + "9" * 12})

    def test_commas_before_the_first_place(self):
        self.shows(",0", {"1234": "1234"})
        self.shows(",,,#", {"1234567": "1234567"})
        self.shows(",.0", {"0.5": ".5", "1234.5": ".5"})
        self.shows(",#,#", {"1234": "1,234"})
        self.shows('","0', {"1234": ",1234"})


class Thousands(ShowTest):
    def test_behind_the_last_place(self):
        self.shows("0,", {"1234": "1", "1500": "2", "499": "0", "1499.999999999999": "1"})
        self.shows("0,,", {"1234567": "1", "1500000": "2"})
        self.shows("0,.0", {"1234": "1.2", "1250": "1.3", "49": "0.0", "50": "0.1"})
        self.shows("0.0", {"1234": "1234.0"})
        self.shows("0,,,,,,,,", {GREATEST: "1", "500000000000000000000000": "1", "499999999999999999999999": "0"})

    def test_with_texts_between(self):
        self.shows('0" k",', {"1234": "1 k"})
        self.shows('0,"k"', {"1234": "1k"})
        self.shows('0,"k",', {"1234567": "1k"})
        self.shows('0,"k".0', {"1234": "1k.2"})

    def test_both_at_once(self):
        self.shows("#,##0,", {"1234567": "1,235", "1234": "1"})
        self.shows("#,##0,,.00", {"1234567890": "1,234.57"})
        self.shows(",#,#,", {"12345678": "12,346"})
        self.shows(",0,", {"1234": "1"})

    def test_with_percent(self):
        self.shows("0,%", {"1234": "123%", "5": "1%"})
        self.shows("0%,", {"1234": "123%"})
        self.shows("%0,", {"1234": "%123"})

    def test_below_0(self):
        self.shows("0,", {"-1500": "-2", "-1499": "-1"})

    def test_a_text_comma_does_not_scale(self):
        self.shows('0","', {"1234": "1234,"})
        self.shows("0\\,", {"1234": "1234,"})


class Sections(ShowTest):
    def test_accounts(self):
        picture = '_($#,##0.00_);[Red]_($(#,##0.00);_("-"_)'
        self.shows_value(picture, number("1234.5"), " $1,234.50 ")
        self.shows_value(picture, number("-1234.5"), " $(1,234.50)", 6)
        self.shows_value(picture, number("0"), " - ")


if __name__ == "__main__":
    unittest.main()
