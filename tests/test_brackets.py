"""What may stand in brackets: a colour, a condition, passed time."""

import unittest

from helper import PictureTest

COLOURS = ("Black", "Blue", "Cyan", "Green", "Magenta", "Red", "White", "Yellow")


class Colours(PictureTest):
    def test_each_in_large_and_small_letters(self):
        for number, name in enumerate(COLOURS, start=1):
            for written in (name, name.upper(), name.lower(), name.swapcase()):
                self.answers(f"[{written}]", [1, number, 0])
                self.answers(f"[{written}]0", [1, number, 1])

    def test_anywhere_in_a_section(self):
        self.answers("0[Red]", [1, 6, 1])
        self.answers("0[Red]0", [1, 6, 1])
        self.answers("0.[Red]0", [1, 6, 1])
        self.answers("@[Green]@", [1, 4, 3])
        self.answers("d[Blue]d", [1, 2, 2])

    def test_one_at_most(self):
        self.is_refused("[Red][Blue]", "[Red][Red]", "[Red]0[Blue]", "[red]0[RED]", "0;[Red][Blue]")
        self.answers("[Red];[Red];[Red];[Red]", [4, 6, 0, 6, 0, 6, 0, 6, 0])

    def test_no_colours(self):
        self.is_refused("[Re]", "[Redd]", "[ Red]", "[Red ]", "[Orange]", "[Color1]", "[1]", "[6]", "[R\u00e9d]")

    def test_beside_a_condition(self):
        self.answers("[Red][>1]0", [1, 6, 1])
        self.answers("[>1][Red]0", [1, 6, 1])
        self.answers("[>1]0[Red]", [1, 6, 1])


class Conditions(PictureTest):
    def test_each_comparison(self):
        for comparison in ("<=", ">=", "<>", "<", ">", "="):
            for number in ("0", "-0", "5", "-5", "007", "1.5", "-1.5", "0.000000000001"):
                self.answers(f"[{comparison}{number}]0", [1, 0, 1])

    def test_no_comparisons(self):
        self.is_refused("[5]", "[==5]", "[=<5]", "[=>5]", "[><5]", "[<<5]", "[>>5]", "[<=>5]", "[!=5]", "[!5]",
                        "[<=]", "[>=]", "[<>]", "[<]", "[>]", "[=]", "[-5]", "[5>]")

    def test_edges_of_the_number(self):
        digits = "123456789012345678901234"
        decimals = "123456789012"
        for sign in ("", "-"):
            self.is_kind(1, f"[>{sign}{digits}]0", f"[>{sign}1.{decimals}]0", f"[>{sign}{digits}.{decimals}]0")
            self.is_refused(f"[>{sign}{digits}5]0", f"[>{sign}1.{decimals}3]0", f"[>{sign}{digits}5.{decimals}]0",
                            f"[>{sign}{digits}.{decimals}3]0")
        self.is_refused("[>" + "0" * 25 + "]0", "[>0." + "0" * 13 + "]0")

    def test_no_numbers(self):
        self.is_refused("[>-]0", "[>.]0", "[>.5]0", "[>5.]0", "[>-.5]0", "[>-5.]0", "[>+5]0", "[>--5]0", "[>5-]0",
                        "[>5.5.5]0", "[>5.-5]0", "[>1,000]0", "[>5E+1]0", "[>5e1]0", "[>5%]0", "[> 5]0", "[>5 ]0",
                        "[ >5]0", "[>- 5]0", "[>a]0", "[>5a]0", "[>5.5a]0", "[>\u0665]0", "[>5:]0", "[>5/]0")

    def test_one_at_most(self):
        self.is_refused("[>1][<5]0", "[>1][>1]0", "[>1]0[<5]", "0;[>1][<5]0")


class PassedTime(PictureTest):
    def test_one_to_nine_letters(self):
        for letter in "hms":
            for many in (1, 2, 3, 8, 9):
                self.is_kind(2, f"[{letter * many}]", f"[{letter.upper() * many}]")
            self.is_refused(f"[{letter * 10}]", f"[{letter.upper() * 10}]", f"[{letter * 200}]")

    def test_mixed_letters(self):
        self.is_refused("[hm]", "[hhm]", "[ms]", "[sh]", "[mss]", "[hmh]")

    def test_large_and_small_letters_are_alike(self):
        self.is_kind(2, "[hH]", "[Mm]", "[sSs]", "[HhHhHhHhH]")
        self.is_refused("[HhHhHhHhHh]")

    def test_other_letters(self):
        self.is_refused("[y]", "[d]", "[yy]", "[dd]", "[h:mm]", "[h ]", "[ h]", "[\u017f]")

    def test_beside_parts(self):
        self.is_kind(2, "[h]:mm:ss", "[mm]:ss", "[h][m][s]", "[h]h", "d [h]", "[h] AM/PM")


class AnythingElse(PictureTest):
    def test_else_in_brackets(self):
        self.is_refused("[]", "[ ]", "[0]", "[#]", "[@]", "[General]", "[AM/PM]", "[A/P]", "[$-409]", '["Red"]',
                        "[\\h]", "[[h]]", "[[Red]]", "[Red][]", "[x]", "[Red,Blue]", "[Red>5]", "[E+]")

    def test_not_closed(self):
        self.is_refused("[", "[Red", "0[", "0[h", "[h;0", "[Red]0;[", "[>5", '[h"]"')

    def test_not_opened(self):
        self.is_refused("]", "0]", "Red]", "h]", "[h]]")


if __name__ == "__main__":
    unittest.main()
