"""typed: its refusals, and what is empty, a text, a truth or an error."""

import unittest

from helper import TypedTest, number, text

ERROR_NAMES = ("#DIV/0!", "#VALUE!", "#REF!", "#NAME?", "#NUM!", "#N/A", "#RING!", "#ROOM!")

# Of each form one, with its value and its picture.
FORMS = (("true", [3, 1], ""), ("False", [3, 0], ""), ("#N/A", [4, 6], ""), ("5", number("5"), ""),
         ("-5.5", number("-5.5"), ""), ("(5)", number("-5"), ""), ("5%", number("0.05"), "0%"),
         ("1,000.5", number("1000.5"), "#,##0.00"), ("2024-02-29", number("45350"), "yyyy-mm-dd"),
         ("29.2.2024", number("45350"), "yyyy-mm-dd"), ("2/29/2024", number("45350"), "yyyy-mm-dd"),
         ("6:00", number("0.25"), "h:mm"), ("6:00:00", number("0.25"), "h:mm:ss"), ("6:00 PM", number("0.75"), "h:mm"),
         ("2024-02-29 6:00", number("45350.25"), "yyyy-mm-dd h:mm"))


class Refusals(TypedTest):
    def test_sizes(self):
        self.are_texts("a" * 4096, "\u00e9" * 2048, " " * 4095 + "a")
        self.are_wrong("a" * 4097, "\u00e9" * 2049, "a" * 65535, " " * 4097, " " * 65535, "5" + " " * 4096,
                       "'" + "a" * 4096)
        self.reads("'" + "a" * 4095, text("a" * 4095))
        self.reads(" " * 4096, [0])
        self.reads(" " * 4095 + "5", number("5"))

    def test_not_well_made(self):
        for wrong in (b"\x80", b"\xff", b"\xc3", b"\xc0\x80", b"\xc1\xbf", b"\xe0\x80\x80", b"\xed\xa0\x80",
                      b"\xed\xbf\xbf", b"\xf0\x80\x80\x80", b"\xf4\x90\x80\x80", b"\xf5\x80\x80\x80", b"\xe2\x82",
                      b"\xc3("):
            self.are_wrong(wrong, b"'" + wrong, b"5" + wrong, b" " + wrong + b" ", b"true" + wrong, wrong + b"5")

    def test_well_made(self):
        self.are_texts("\u00e9", "\u20ac", "\U0001f600", "\ud7ff\ue000", "\U0010ffff", "\u07ff\u0800", "\0", "\x7f\x80")


class Empty(TypedTest):
    def test_nothing(self):
        self.reads("", [0])
        self.reads(" ", [0])
        self.reads("     ", [0])

    def test_other_signs_are_no_blanks(self):
        self.are_texts("\t", "\n", "\0", "\u00a0", "\u3000", " \t ", "5\n", "\t5", "\u00a05")


class Blanks(TypedTest):
    def test_at_both_ends_of_each_form(self):
        for written, value, picture in FORMS:
            for before in ("", " ", "   "):
                for behind in ("", " ", "    "):
                    self.reads(before + written + behind, value, picture)

    def test_within(self):
        self.are_texts("tr ue", "# N/A", "5 5", "- 5", "( 5)", "(5 )", "5 %", "1, 000", "1 ,000", "1 .5", "1. 5",
                       "1e 5", "1 e5", "1e- 5", "2024 -01-01", "2024- 01-01", "6 :00", "6: 00", "6:00: 00",
                       "6:00:00 .5", "+ 5", "1 000")

    def test_a_text_keeps_them(self):
        self.are_texts(" a", "a ", "  a b  ", " (5)% ", " 1.2.3 ")


class Apostrophe(TypedTest):
    def test_alone(self):
        self.reads("'", text(""))

    def test_what_is_behind_it(self):
        for written in ("a", "5", "true", "#N/A", "2024-01-01", "6:00", "'", "''", "'5", "5%", "\u00e9", " ", "   ",
                        " 5", "5 ", "  5  ", "a  "):
            self.reads("'" + written, text(written))

    def test_behind_a_blank(self):
        self.are_texts(" '", " '5", "  'a", " ' ", " 'true ")

    def test_elsewhere(self):
        self.are_texts("a'", "5'", "1'000", "5''")


class Truths(TypedTest):
    def test_letters(self):
        for written in ("true", "TRUE", "True", "tRuE", "trUE"):
            self.reads(written, [3, 1])
        for written in ("false", "FALSE", "False", "fAlSe", "falSE"):
            self.reads(written, [3, 0])

    def test_nothing_else(self):
        self.are_texts("tru", "truee", "fals", "falsee", "t", "f", "yes", "no", "true!", "-true", "(true)",
                       "true false", "TRUE%", "trueFALSE")


class Errors(TypedTest):
    def test_names(self):
        for code, name in enumerate(ERROR_NAMES, start=1):
            self.reads(name, [4, code])

    def test_small_letters(self):
        self.are_texts(*[name.lower() for name in ERROR_NAMES])
        self.are_texts("#n/A", "#Div/0!")

    def test_nothing_else(self):
        self.are_texts("#", "#N", "#N/A!", "N/A", "#DIV/0", "#DIV/1!", "#NAME!", "#NUM", "##N/A", "#N/A#N/A", "-#N/A")


class Texts(TypedTest):
    def test_anything_else(self):
        self.are_texts("a", "abc", "five", "5a", "a5", "5 apples", "$5", "5$", "0x10", "1_000", "--", "+", "-", "()",
                       "(", ")", "%", ".", ",", "e", "E5", ":", "/", "1/2", "1/2/3/4", "@", '"5"', "=5", "infinity",
                       "nan", "General", "\u0665", "\uff15", "\u00b2", "5\u066a", "\u22125", "[5]", "{5}", "1;2",
                       "1:2:3:4", "\\5", "*")


if __name__ == "__main__":
    unittest.main()
