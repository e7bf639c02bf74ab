"""How a picture is parted, which kinds a section may be of, and where a condition may stand."""

import unittest

from helper import PictureTest

# A section of each kind, by the kind's number.
OF_KIND = ('"x"', "0.0", "h:mm", "@", "General")


class Parting(PictureTest):
    def test_empty_picture_is_one_section_of_texts(self):
        self.answers("", [1, 0, 0])

    def test_empty_sections(self):
        self.answers(";", [2, 0, 0, 0, 0])
        self.answers(";;", [3, 0, 0, 0, 0, 0, 0])
        self.answers(";;;", [4, 0, 0, 0, 0, 0, 0, 0, 0])
        self.answers("0;;@", [3, 0, 1, 0, 0, 0, 3])
        self.answers(";0", [2, 0, 0, 0, 1])
        self.answers("0;", [2, 0, 1, 0, 0])

    def test_one_to_four_sections(self):
        self.answers("0", [1, 0, 1])
        self.answers("0;General", [2, 0, 1, 0, 4])
        self.answers("0;General;yy", [3, 0, 1, 0, 4, 0, 2])
        self.answers("0;General;yy;@", [4, 0, 1, 0, 4, 0, 2, 0, 3])

    def test_colours_stand_with_their_own_sections(self):
        self.answers("[Red]0;[Blue]@", [2, 6, 1, 2, 3])
        self.answers("[Cyan];;[White];[Yellow]", [4, 3, 0, 0, 0, 7, 0, 8, 0])

    def test_five_sections(self):
        self.is_refused(";;;;", "0;0;0;@;", "0;0;0;;@", ";;;;;;;;")

    def test_semicolon_in_quotes_does_not_part(self):
        self.answers('";"', [1, 0, 0])
        self.answers('0";;;;";@', [2, 0, 1, 0, 3])
        self.answers('"a";"b"', [2, 0, 0, 0, 0])

    def test_semicolon_behind_backslash_or_underscore_does_not_part(self):
        for sign in "\\_":
            self.answers(sign + ";", [1, 0, 0])
            self.answers(f"0{sign};0", [1, 0, 1])
            self.answers(f"0{sign};;0", [2, 0, 1, 0, 1])
            self.answers(f"{sign}a;0", [2, 0, 0, 0, 1])
            self.answers(f"{sign};" * 5, [1, 0, 0])
        self.answers("\\\\;0", [2, 0, 0, 0, 1])
        self.answers("__;0", [2, 0, 0, 0, 1])
        self.answers("\\_;0", [2, 0, 0, 0, 1])

    def test_semicolon_in_brackets_does_not_part(self):
        self.is_refused("[;]", "[Red;]0", "0[;]0", "[Red;Blue]", "[>1;]0")

    def test_quote_and_bracket_behind_backslash_do_not_open(self):
        self.answers('\\";0', [2, 0, 0, 0, 1])
        self.answers('_";0', [2, 0, 0, 0, 1])
        self.answers("\\[;0", [2, 0, 0, 0, 1])
        self.answers("_[;0", [2, 0, 0, 0, 1])

    def test_signs_within_quotes_are_text(self):
        self.answers('"[";"]"', [2, 0, 0, 0, 0])
        self.answers('"\\";0', [2, 0, 0, 0, 1])
        self.answers('"_";0', [2, 0, 0, 0, 1])


class KindsOfSections(PictureTest):
    def test_each_kind_alone(self):
        for kind, section in enumerate(OF_KIND):
            self.is_kind(kind, section)

    def test_only_the_last_may_be_of_kind_3(self):
        for kind, section in enumerate(OF_KIND):
            self.answers(section + ";@", [2, 0, kind, 0, 3] if kind != 3 else [-3])
            self.answers(section + ";0;@", [3, 0, kind, 0, 1, 0, 3] if kind != 3 else [-3])
            self.answers("0;" + section + ";@", [3, 0, 1, 0, kind, 0, 3] if kind != 3 else [-3])
        self.is_refused("@;0", "@;", "@;0;0", "0;@;0", "@;0;0;@", "0;@;0;@", "0;0;@;@", "0;0;@;", "@;@")

    def test_third_section_of_each_kind(self):
        for kind, section in enumerate(OF_KIND):
            self.answers("0;0;" + section, [3, 0, 1, 0, 1, 0, kind])

    def test_fourth_section_of_each_kind(self):
        for kind, section in enumerate(OF_KIND):
            right = [4, 0, 1, 0, 1, 0, 1, 0, kind]
            self.answers("0;0;0;" + section, right if kind in (0, 3) else [-3])

    def test_first_three_of_four_of_each_kind(self):
        for kind, section in enumerate(OF_KIND):
            if kind != 3:
                self.answers(";".join([section] * 3 + [""]), [4] + [0, kind] * 3 + [0, 0])

    def test_one_wrong_section_spoils_the_picture(self):
        for place in range(4):
            sections = ["0", "0", "0", "@"]
            sections[place] = "x"
            self.is_refused(";".join(sections))

    def test_general_just_once(self):
        self.is_kind(4, "General", "general", "GENERAL", "gEnErAl", 'General" pieces"', "(General)", "- General\\x")
        self.answers("[Red]General", [1, 6, 4])
        self.answers("[<5][Red]General;General", [2, 6, 4, 0, 4])
        self.is_refused("GeneralGeneral", "General General", "Genera", "Generl", "G", "Generals")

    def test_general_beside_others(self):
        self.is_refused("General0", "0General", "General.", "General,", "General%", "General@", "@General",
                        "GeneralE+0", "Generald", "hGeneral", "General[h]", "General AM/PM", "A/P General")

    def test_texts_places(self):
        self.is_kind(3, "@", "@@", "@@@@@", '"a"@\\b', "@ @", "(@)")
        self.answers("[Red]@", [1, 6, 3])
        self.is_refused("@0", "0@", "@#", "?@", "@.", "@,", "@%", "@E+0", "@y", "d@", "@[h]", "@AM/PM", "@A/P")

    def test_digits_beside_days(self):
        self.is_refused("0d", "d0", "h.", "m,", "mmm d, yyyy", "y%", "0[h]", "[m]#", "? AM/PM", "0 A/P", "hE+0",
                        "0E+0h", "[s],", "m.0", "h.0", "[h].0", "[m].00", "AM/PM.0")

    def test_texts_anywhere(self):
        self.is_kind(0, '"a"', '""', '"a""b"', "\\a", "_a", " ", '_("a"\\b-')
        self.is_kind(1, '$0', '0"a"0', '0"a".0', '0." "0', '0"a",0', '0 %', '-0_)', '0"x"E+0')
        self.is_kind(2, '"day "d', "d\\.m", 'd"of"m', "h:mm' A/P", "[h] [m]")


class Conditions(PictureTest):
    def test_in_each_of_four_sections(self):
        self.answers("[>1]0;0;0;@", [4, 0, 1, 0, 1, 0, 1, 0, 3])
        self.answers("0;[>1]0;0;@", [4, 0, 1, 0, 1, 0, 1, 0, 3])
        self.answers("[>1]0;[<1]0;0;@", [4, 0, 1, 0, 1, 0, 1, 0, 3])
        self.is_refused("0;0;[>1]0;@", "0;0;0;[>1]@", "[>1]0;[<1]0;[=1]0;@", ";;;[>1]", ";;[>1];")

    def test_in_fewer_sections(self):
        self.answers("[>1]0", [1, 0, 1])
        self.answers("[>1]0;[<1]0", [2, 0, 1, 0, 1])
        self.answers("[>1];[<1];", [3, 0, 0, 0, 0, 0, 0])
        self.is_refused(";;[>1]", "0;0;[<=5]0", "0;0;[<=5]@")

    def test_in_sections_of_each_kind(self):
        for kind, section in enumerate(OF_KIND):
            self.answers("[>1]" + section, [1, 0, kind])
            self.answers(section + "[>1]", [1, 0, kind])
            self.answers("0;[>1]" + section, [2, 0, 1, 0, kind])


if __name__ == "__main__":
    unittest.main()
