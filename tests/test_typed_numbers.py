"""typed: numbers and their pictures."""

import unittest

from helper import TypedTest, number
from numberpictures.pictures import show

GREATEST = "999999999999999999999999.999999999999"


class Signs(TypedTest):
    def test_minus_and_plus(self):
        for written, expected in (("5", "5"), ("-5", "-5"), ("+5", "5"), ("-5.5", "-5.5"), ("+.5", "0.5"),
                                  ("-.5", "-0.5"), ("-5.", "-5"), ("-1e2", "-100"), ("+1e2", "100")):
            self.reads_number(written, expected)
        self.reads_number("-5%", "-0.05", "0%")
        self.reads_number("+1,000", "1000", "#,##0")
        self.reads_number("-1,000.0", "-1000", "#,##0.00")

    def test_wrong_signs(self):
        self.are_texts("-", "+", "--5", "++5", "-+5", "+-5", "5-", "5+", "-.", "+.", "-%", "-e5", "5-5", "\u22125")

    def test_brackets(self):
        for written, expected in (("(5)", "-5"), ("(0.5)", "-0.5"), ("(.5)", "-0.5"), ("(5.)", "-5"), ("(1e2)", "-100"),
                                  ("(0)", "0")):
            self.reads_number(written, expected)
        self.reads_number("(1,000)", "-1000", "#,##0")
        self.reads_number("(1,000.5)", "-1000.5", "#,##0.00")
        self.reads_number("(5%)", "-0.05", "0%")
        self.reads_number("(5.5%)", "-0.055", "0.00%")

    def test_wrong_brackets(self):
        self.are_texts("()", "(", ")", "(-5)", "(+5)", "-(5)", "+(5)", "((5))", "(5", "5)", "(5))", "((5)", ")5(",
                       "(5)%", "(%)", "(.)", "( )", "(-)", "(5)e2", "(5)(5)", "[5]", "(5)5", "5(5)")


class Digits(TypedTest):
    def test_without_a_point(self):
        for written in ("0", "1", "10", "1234", "1234567", "123456789012345678901234"):
            self.reads_number(written, written)
        self.reads_number("007", "7")
        self.reads_number("0000", "0")

    def test_points(self):
        for written, expected in (("1.5", "1.5"), ("1.", "1"), (".5", "0.5"), ("0.5", "0.5"), ("00.50", "0.5"),
                                  ("1.000000000001", "1.000000000001"), (".000000000001", "0.000000000001")):
            self.reads_number(written, expected)
        self.are_texts(".", "..", "1..5", "1.5.", ".5.", "1.2.3", "..5")

    def test_nothing(self):
        for written in ("0", "-0", "+0", "(0)", "-0.0", "0.", "-.0", "0e5", "-0e-5", "0e99"):
            self.reads(written, [1, 0])
        self.reads("-0%", [1, 0], "0%")
        self.reads("(0.0%)", [1, 0], "0.00%")

    def test_groups(self):
        for written, expected in (("1,000", "1000"), ("12,345", "12345"), ("123,456", "123456"),
                                  ("1,234,567", "1234567"), ("0,000", "0"), ("001,000", "1000"),
                                  ("999,999,999,999,999,999,999,999", "9" * 24), ("1,000.", "1000")):
            self.reads_number(written, expected, "#,##0")
        for written, expected in (("1,000.5", "1000.5"), ("1,234.50", "1234.5"), ("1,000.0", "1000"),
                                  ("12,345.678901", "12345.678901")):
            self.reads_number(written, expected, "#,##0.00")

    def test_wrong_groups(self):
        self.are_texts(",", ",123", ",123,456", "1234,567", "1,23", "1,2345", "1,", "1,,000", "1,000,", "1,000,00",
                       "12,34,567", "1,0000", "1,00", "1,234567", "1234,567,890", "-,123", "(,123)", "1,.5", ",.5",
                       "1,00.5", ",000")

    def test_a_comma_behind_the_point(self):
        self.are_texts("1.000,5", "1.0,000", "1.,000", "1.000,000", ".123,456", "1,000.000,000", "1,000.5,")

    def test_most_digits(self):
        self.reads_number("0" * 59 + "5", "5")
        self.reads_number("0" * 36 + "9" * 24, "9" * 24)
        self.reads_number("0." + "3" * 59, "0.333333333333")
        self.reads_number("." + "3" * 60, "0.333333333333")
        self.reads_number("0" * 60 + ".", "0")
        self.reads_number("-" + "0" * 60, "0")
        self.reads_number("0" * 60 + "e99", "0")
        self.reads_number("0" * 60 + "%", "0", "0%")
        self.reads_number(",".join(["000"] * 20), "0", "#,##0")
        self.are_texts("0" * 61, "0" * 60 + "5", "0." + "3" * 60, "." + "3" * 61, "0" * 61 + "e1", "0" * 61 + "%",
                       "-" + "0" * 61, "(" + "0" * 61 + ")", "0" * 30 + "." + "0" * 31, "0," + ",".join(["000"] * 20),
                       "0" * 4096)

    def test_most_digits_before_an_exponent(self):
        self.reads_number("1" + "0" * 59 + "e-40", "1" + "0" * 19)
        self.reads_number("0" * 30 + "." + "0" * 29 + "7e50", "7" + "0" * 20)
        self.are_texts("1" + "0" * 60 + "e-40")


class Exponents(TypedTest):
    def test_ordinary(self):
        for written, expected in (("1e5", "100000"), ("1E5", "100000"), ("1e+5", "100000"), ("1E+5", "100000"),
                                  ("1e-5", "0.00001"), ("1E-5", "0.00001"), ("1e05", "100000"), ("1e-05", "0.00001"),
                                  ("1e0", "1"), ("1e-0", "1"), ("1e00", "1"), ("1.5e2", "150"), ("1.5e1", "15"),
                                  ("1.25e1", "12.5"), (".5e1", "5"), ("5.e1", "50"), ("1e23", "1" + "0" * 23),
                                  ("1e-12", "0.000000000001"), ("123e-2", "1.23"), ("0.001e3", "1")):
            self.reads_number(written, expected)

    def test_digits(self):
        self.are_texts("1e", "1E", "1e+", "1e-", "1e123", "1e-123", "1e+100", "1e001", "1e000", "1ee5", "1e5e5",
                       "1e--5", "1e+-5", "1e5-", "1e1.5", "1e.5", "1e1,000", "e5", ".e5", "-e5", "1e5.", "1e(5)",
                       "1eE5")

    def test_with_commas_and_percent(self):
        self.reads_number("1,000e2", "100000", "#,##0")
        self.reads_number("1,000.5e2", "100050", "#,##0.00")
        self.reads_number("1e2%", "1", "0%")
        self.reads_number("1.5e2%", "1.5", "0.00%")
        self.reads_number("1.e2%", "1", "0%")
        self.are_texts("1%e2", "1e%", "1e2%%")

    def test_far_below_the_least(self):
        for written in ("1e-13", "1e-99", "4e-13", "5e-13", "-1e-99", "123456789e-99"):
            self.reads(written, [1, 0])


class Percents(TypedTest):
    def test_ordinary(self):
        for written, expected in (("5%", "0.05"), ("50%", "0.5"), ("100%", "1"), ("0%", "0"), ("5.%", "0.05"),
                                  ("-5%", "-0.05"), ("+5%", "0.05"), ("1,000%", "10"), ("1,000.%", "10"),
                                  ("1e1%", "0.1")):
            self.reads_number(written, expected, "0%")
        for written, expected in (("5.5%", "0.055"), ("5.0%", "0.05"), (".5%", "0.005"), ("1,000.5%", "10.005"),
                                  ("12.345678%", "0.12345678"), ("-.5%", "-0.005")):
            self.reads_number(written, expected, "0.00%")

    def test_wrong(self):
        self.are_texts("%", "5%%", "%5", "%5%", "5%5", "5%.", "5.%5", ".%", ",%", "-%", "(5)%", "(5%", "5%)", "5%-",
                       "(%)", "(5%)%", "(5%%)")


class Rounding(TypedTest):
    def test_halves_to_the_even_one(self):
        for written, z in (("0.0000000000005", 0), ("0.0000000000015", 2), ("0.0000000000025", 2),
                           ("0.0000000000035", 4), ("0.00000000000050", 0), ("0.00000000000051", 1),
                           ("0.0000000000004999", 0), ("0.00000000000150000000001", 2),
                           ("0.0000000000025000000000000000000000001", 3), ("0.0000000000024", 2),
                           ("0.0000000000026", 3), ("5e-13", 0), ("15e-13", 2), ("25e-13", 2), ("6e-13", 1),
                           ("250000000000000000000000000000000000000000000000000001e-66", 0)):
            self.reads(written, [1, z])
            self.reads("-" + written, [1, -z])
            self.reads("(" + written + ")", [1, -z])
        self.reads("1.0000000000005", [1, 10 ** 12])
        self.reads("1.0000000000015", [1, 10 ** 12 + 2])

    def test_percents_are_rounded_to_the_even_one(self):
        for written, z in (("0.00000000005%", 0), ("0.00000000015%", 2), ("0.00000000025%", 2), ("0.00000000035%", 4),
                           ("0.000000000051%", 1), ("0.000000000049%", 0), ("0.000000000149%", 1)):
            self.reads(written, [1, z], "0.00%")
            self.reads("-" + written, [1, -z], "0.00%")
        self.reads("5e-11%", [1, 0], "0%")
        self.reads("15e-11%", [1, 2], "0%")

    def test_percents_are_rounded_twice(self):
        # 50.4 becomes 50, and that a half, which goes to 0; at once it would be 1.
        self.reads("0.0000000000504%", [1, 0], "0.00%")
        # 149.5 becomes 150, and that 2; at once it would be 1.
        self.reads("0.0000000001495%", [1, 2], "0.00%")
        # 150.5 becomes 150, and that 2; 250.5 becomes 250, and that 2; at once it would be 3.
        self.reads("0.0000000001505%", [1, 2], "0.00%")
        self.reads("0.0000000002505%", [1, 2], "0.00%")
        # 49.5 becomes 50, and that 0; 50.5 becomes 50, and that 0, at once it would be 1; 51 becomes 1.
        self.reads("0.0000000000495%", [1, 0], "0.00%")
        self.reads("0.0000000000505%", [1, 0], "0.00%")
        self.reads("0.0000000000506%", [1, 1], "0.00%")


class Large(TypedTest):
    def test_the_greatest(self):
        self.reads(GREATEST, [1, 10 ** 36 - 1])
        self.reads("-" + GREATEST, [1, 1 - 10 ** 36])
        self.reads("(" + GREATEST + ")", [1, 1 - 10 ** 36])
        self.reads(GREATEST + "4", [1, 10 ** 36 - 1])
        self.reads("999999999999999999999999999999999999e-12", [1, 10 ** 36 - 1])
        self.reads("99999999999999999999999.9999999999999e1", [1, 10 ** 36 - 1])
        self.reads("1e23", [1, 10 ** 35])

    def test_too_large(self):
        self.are_texts("1" + "0" * 24, "-1" + "0" * 24, "(1" + "0" * 24 + ")", "1e24", "1e99", "9" * 60,
                       "9" * 60 + "e99", "0.1e25", GREATEST + "5", "-" + GREATEST + "5", GREATEST + "9",
                       "1,000,000,000,000,000,000,000,000", "10e23", "1000e21")

    def test_in_percent_the_hundredth_is_asked(self):
        self.reads_number("1" + "0" * 24 + "%", "1" + "0" * 22, "0%")
        self.reads_number("1e24%", "1" + "0" * 22, "0%")
        self.reads_number("-1e25%", "-1" + "0" * 23, "0%")
        self.reads_number("9" * 26 + "%", "9" * 24 + ".99", "0%")
        self.reads_number("9" * 26 + "." + "9" * 10 + "%", GREATEST, "0.00%")
        self.are_texts("1e26%", "1" + "0" * 26 + "%", "-1e26%", "(1e26%)", "1e99%", "9" * 26 + "." + "9" * 10 + "5%",
                       "9" * 60 + "%")


class ReadBack(TypedTest):
    def test_what_is_shown_as_it_is_is_read_back(self):
        for z in (0, 1, -1, 10 ** 11, 5 * 10 ** 11, 10 ** 12, -25 * 10 ** 10, 1234567891234567, 10 ** 36 - 1,
                  1 - 10 ** 36):
            with self.subTest(z=z):
                self.assertEqual(number(self.shown(z)), [1, z])
                self.reads(self.shown(z), [1, z])

    def shown(self, z):
        return bytes(show([64], [1, z])[2:]).decode()


if __name__ == "__main__":
    unittest.main()
