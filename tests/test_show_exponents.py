"""show: sections with an exponent."""

import unittest

from helper import ShowTest

GREATEST = "999999999999999999999999.999999999999"
LEAST = "0.000000000001"


class Exponents(ShowTest):
    def test_one_place(self):
        self.shows("0.00E+00", {"0": "0.00E+00", "1": "1.00E+00", "12345": "1.23E+04", "0.00012": "1.20E-04",
                                "10": "1.00E+01", "9.99": "9.99E+00", "-12345": "-1.23E+04", "0.1": "1.00E-01"})
        self.shows("0E+0", {"5": "5E+0", "50": "5E+1", "0.5": "5E-1", "99": "1E+2", "94": "9E+1"})

    def test_two_places(self):
        self.shows("#0.0E+0", {"1": "1.0E+0", "12": "12.0E+0", "99.9": "99.9E+0", "123": "1.2E+2", "1234": "12.3E+2",
                               "0.5": "50.0E-2", "0.05": "5.0E-2", "0.005": "50.0E-4"})

    def test_three_places(self):
        self.shows("##0.0E+0", {"1": "1.0E+0", "12": "12.0E+0", "123": "123.0E+0", "1234": "1.2E+3", "12345": "12.3E+3",
                                "123456": "123.5E+3", "0.1": "100.0E-3", "0.01": "10.0E-3", "0.001": "1.0E-3",
                                "0.0001": "100.0E-6"})
        self.shows("000E+0", {"1": "001E+0", "12": "012E+0", "1234": "001E+3"})
        self.shows("??0E+0", {"1": "  1E+0", "12": " 12E+0"})

    def test_more_places(self):
        self.shows("0000E+0", {"12345": "0001E+4", "0.5": "5000E-4", "1234.5": "1235E+0"})
        self.shows("#####E+0", {"123456": "1E+5", "0.000001": "10000E-10"})
        self.shows("#" * 24 + "E+0", {GREATEST: "1E+24", "12": "12E+0", "0.5": "5" + "0" * 23 + "E-24"})
        self.shows("#" * 23 + "E+0", {GREATEST: "10E+23"})
        self.shows("#" * 23 + ".0E+0", {"123456789012345678901234": "1.2E+23"})

    def test_signs(self):
        self.shows("0E+0", {"100": "1E+2", "0.01": "1E-2", "1": "1E+0", "0": "0E+0"})
        self.shows("0E-0", {"100": "1E2", "0.01": "1E-2", "1": "1E0", "0": "0E0"})

    def test_zeros_behind(self):
        for zeros in (1, 2, 3):
            self.shows("0E+" + "0" * zeros, {"100": "1E+" + "2".zfill(zeros), "0.01": "1E-" + "2".zfill(zeros),
                                             "1": "1E+" + "0" * zeros, "100000000000": "1E+" + "11".zfill(zeros)})
            self.shows("0E-" + "0" * zeros, {"100": "1E" + "2".zfill(zeros), LEAST: "1E-" + "12".zfill(zeros)})

    def test_far_above_1(self):
        self.shows("0.0E+0", {"100000000000000000000000": "1.0E+23", "123456789012345678901234": "1.2E+23",
                              GREATEST: "1.0E+24", "-" + GREATEST: "-1.0E+24"})
        self.shows("0." + "0" * 12 + "E+00", {"123456789012345678901234": "1.234567890123E+23"})

    def test_between_1_and_the_least(self):
        for exponent in range(1, 13):
            written = "0." + "0" * (exponent - 1)
            self.shows("0.0E+0", {written + "1": f"1.0E-{exponent}"})
        self.shows("0.00E+0", {LEAST: "1.00E-12", "0.000000000999": "9.99E-10", "0.000000000099": "9.90E-11"})
        self.shows("#0.0E+0", {LEAST: "1.0E-12"})
        self.shows("##0.0E+0", {LEAST: "1.0E-12", "0.000000000012": "12.0E-12", "0.000000001": "1.0E-9"})
        self.shows("####0E+0", {LEAST: "1000E-15"})
        self.shows("######0E+0", {LEAST: "100E-14"})

    def test_nothing(self):
        self.shows("0.0E+0", {"0": "0.0E+0"})
        self.shows("000.0E+00", {"0": "000.0E+00"})
        self.shows("#.#E+0", {"0": ".E+0"})
        self.shows("?.?E-0", {"0": " . E0"})

    def test_rounding_that_brings_the_next_exponent(self):
        self.shows("0E+0", {"9.5": "1E+1", "9.4": "9E+0", "95": "1E+2", "0.95": "1E+0", "0.0095": "1E-2"})
        self.shows("0.0E+0", {"9.95": "1.0E+1", "9.949999999999": "9.9E+0", "99500": "1.0E+5", "0.995": "1.0E+0"})
        self.shows("#0E+0", {"99.5": "1E+2", "99.4": "99E+0", "9.5": "10E+0"})
        self.shows("##0.0E+0", {"999.95": "1.0E+3", "999.94": "999.9E+0", "99.95": "100.0E+0", "0.99995": "1.0E+0"})
        self.shows("000E+0", {"999.5": "001E+3"})
        self.shows("0E-0", {"0.95": "1E0", "0.095": "1E-1"})

    def test_halves_go_up(self):
        self.shows("0E+0", {"2.5": "3E+0", "25": "3E+1", "0.25": "3E-1", "1.5": "2E+0", "-2.5": "-3E+0"})
        self.shows("0.0E+0", {"1.25": "1.3E+0", "1250": "1.3E+3", "1249": "1.2E+3", "0.000125": "1.3E-4"})

    def test_places_behind_the_point(self):
        self.shows("0.##E+0", {"1": "1.E+0", "15": "1.5E+1", "125": "1.25E+2"})
        self.shows("0.??E+0", {"1": "1.  E+0", "15": "1.5 E+1"})
        self.shows("0.E+0", {"15": "2.E+1", "1": "1.E+0"})
        self.shows("0.#0E+0", {"1": "1.0E+0", "1.5": "1.50E+0"})

    def test_texts(self):
        self.shows('"a"0"b"."c"0"d"E+0', {"15": "a1b.c5dE+1", "-15": "-a1b.c5dE+1"})
        self.shows('0" "0E+0', {"1234": "1 2E+2"})

    def test_colours_and_conditions_behind(self):
        self.shows("0E+0[Red]", {"15": "2E+1"}, 6)
        self.shows("0E+0[Red]0[>5]", {"15": "2E+01"}, 6)
        self.shows("0E+[Red]0", {"15": "2E+1"}, 6)
        self.shows("0E+0[>20]", {"15": "15"})

    def test_minus(self):
        self.shows("0E+0", {"-15": "-2E+1", "-0.15": "-2E-1", "-" + LEAST: "-1E-12"})
        self.shows("0;0E+0", {"-15": "2E+1"})
        self.shows("0;[<0]0E+0", {"-15": "-2E+1"})


if __name__ == "__main__":
    unittest.main()
