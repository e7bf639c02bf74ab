"""Compares check with a second reading of the document, made of regular expressions, on many short pictures."""

import itertools
import re
import unittest

from helper import bytes_of
from numberpictures.pictures import check

COLOURS = ("black", "blue", "cyan", "green", "magenta", "red", "white", "yellow")

# One letter stands for each piece, so that a section's kind can be told by an expression over these letters.
FORMS = (
    ("t", rb'"[^"]*"|[\\_](?:[\x00-\x7f]|[\xc0-\xff][\x80-\xbf]*)'),
    ("c", rb"\[(?:" + "|".join(COLOURS).encode() + rb")\]"),
    ("q", rb"\[(?:<=|>=|<>|<|>|=)-?[0-9]{1,24}(?:\.[0-9]{1,12})?\]"),
    ("T", rb"\[s{1,9}\](?:\.0{1,3})?|\[(?:h{1,9}|m{1,9})\]"),
    ("0", rb"0"),
    ("#", rb"[#?]"),
    (".", rb"\."),
    (",", rb","),
    ("%", rb"%"),
    ("@", rb"@"),
    ("E", rb"(?-i:E)[+-]"),
    ("G", rb"General"),
    ("T", rb"AM/PM|A/P"),
    ("T", rb"y{1,4}(?!y)|m{1,5}(?!m)|d{1,4}(?!d)|h{1,2}(?!h)|s{1,2}(?!s)(?:\.0{1,3})?"),
    ("t", rb"[ !$&'()+\-/:<=>^{}~\x80-\xff]"),
    (";", rb";"),
)
EXPRESSIONS = tuple((letter, re.compile(form, re.IGNORECASE | re.DOTALL)) for letter, form in FORMS)

KINDS = (
    (0, re.compile(r"")),
    (3, re.compile(r"@+")),
    (4, re.compile(r"G")),
    (2, re.compile(r"T+")),
)
EXPONENT = re.compile(r"[t0#]*[0#][t0#]*(?:\.[t0#]*)?E0{1,3}")


def pieces_of(picture):
    """The letters of the pieces and the numbers of the colours, section by section; None if one can't be read."""
    letters, colours, at = "", [[]], 0
    while at < len(picture):
        for letter, expression in EXPRESSIONS:
            found = expression.match(picture, at)
            if found:
                break
        else:
            return None
        if letter == "c":
            colours[-1].append(COLOURS.index(found.group()[1:-1].decode().lower()) + 1)
        if letter == ";":
            colours.append([])
        letters += letter
        at = found.end()
    return list(zip(letters.split(";"), colours))


def kind_of(letters):
    bare = re.sub("[cq]", "", letters)
    for kind, expression in KINDS:
        if expression.fullmatch(bare.replace("t", "")):
            return kind
    before, _, behind = bare.partition("E")[0].partition(".")
    if before.count("0") + before.count("#") > 24 or behind.count("0") + behind.count("#") > 12:
        return None
    if "E" in bare:
        return 1 if EXPONENT.fullmatch(bare) else None
    if not re.fullmatch(r"[t0#,%]*(?:\.[t0#%]*)?", bare) or not re.search("[0#]", bare):
        return None
    return 1 if bare.count(",") <= 8 and bare.count("%") <= 4 else None


def model(picture):
    if len(picture) > 255:
        return [-3]
    sections = pieces_of(picture)
    if sections is None or len(sections) > 4:
        return [-3]
    answer, kinds = [len(sections)], []
    for place, (letters, colours) in enumerate(sections):
        kinds.append(kind_of(letters))
        if len(colours) > 1 or letters.count("q") > (1 if place < 2 else 0):
            return [-3]
        answer += [sum(colours), kinds[-1]]
    if None in kinds or 3 in kinds[:-1] or (len(kinds) == 4 and kinds[3] not in (0, 3)):
        return [-3]
    return answer


class AgainstTheModel(unittest.TestCase):
    def compare(self, parts, most):
        for many in range(most + 1):
            for chosen in itertools.product(parts, repeat=many):
                picture = "".join(chosen).encode("utf-8")
                self.assertEqual(check(list(picture)), model(picture), picture)

    def test_pieces_of_all_sorts(self):
        self.compare(['"a"', '"', "\\", "_", "[Red]", "[blue]", "[>1]", "[", "]", "[s]", "[h]", "0", "#", ".", ",", "%",
                      "@", "E+", "e-", "General", "AM/PM", "a/p", "y", "m", "s", "hh", "-", "\u00e9", ";", "5"], 3)

    def test_digits(self):
        self.compare(["0", "?", ".", ",", "%", "E+", "[Red]", " "], 5)

    def test_decimals_of_seconds(self):
        self.compare(["s", "S", "[s]", ".", "0", "m", "A/P"], 6)

    def test_sections(self):
        self.compare([";", "[>1]", "@", "0", "h", "General"], 6)

    def test_signs_that_hide_others(self):
        self.compare(['"', "\\", "_", ";", "0", "[", "]", "h"], 5)

    def test_conditions(self):
        for many in range(6):
            for inner in itertools.product("<>=-1.", repeat=many):
                picture = bytes_of("[" + "".join(inner) + "]0")
                self.assertEqual(check(picture), model(bytes(picture)), inner)

    def test_longer_pictures(self):
        for section in ("#,##0.00_);[Red](#,##0.00)", "yyyy-mm-dd hh:mm:ss.000", "[Blue][<=-1.5]0.0E+00", "0;-0;;@"):
            for cut in range(len(section) + 1):
                for between in ["", ";", "0", "@", '"', "\\", "[h]", "E+", "[Red]", "%", "s", "General"]:
                    picture = (section[:cut] + between + section[cut:]).encode("utf-8")
                    self.assertEqual(check(list(picture)), model(picture), picture)


if __name__ == "__main__":
    unittest.main()
