"""Compares typed with a second writing of the document, made of regular expressions and fractions."""

import datetime
import fractions
import itertools
import random
import re
import unittest

from helper import text
from numberpictures.pictures import show, typed

NAMES = ("#DIV/0!", "#VALUE!", "#REF!", "#NAME?", "#NUM!", "#N/A", "#RING!", "#ROOM!")

BODY = r"(?=\.?[0-9])(?P<whole>[0-9]{1,3}(?:,[0-9]{3})+|[0-9]*)(?:\.(?P<rest>[0-9]*))?" \
       r"(?:[eE](?P<e>[-+]?[0-9]{1,2}))?(?P<p>%?)"
NUMBER = re.compile(rf"[-+]?{BODY}", re.ASCII)
BRACKETED = re.compile(rf"\({BODY}\)", re.ASCII)

DAY = r"(?:(?P<y1>\d{4})-(?P<m1>\d\d?)-(?P<d1>\d\d?)|(?P<d2>\d\d?)\.(?P<m2>\d\d?)\.(?P<y2>\d{4})|" \
      r"(?P<m3>\d\d?)/(?P<d3>\d\d?)/(?P<y3>\d{4}))"
TIME = r"(?P<h>\d\d?):(?P<min>[0-5]?\d)(?P<sec>:(?P<s>[0-5]?\d(?:\.\d{1,3})?))?(?: (?P<noon>[aApP])[mM])?"
MOMENTS = tuple(re.compile(form, re.ASCII) for form in (DAY, TIME, f"{DAY} {TIME}"))


def model(written):
    bare = written.strip(" ")
    if not bare:
        return [0, 0, 0]
    if written[0] == "'":
        return [0] + text(written[1:]) + [0]
    if bare.lower() in ("true", "false"):
        return [0, 3, int(bare.lower() == "true"), 0]
    if bare in NAMES:
        return [0, 4, NAMES.index(bare) + 1, 0]
    found = number_of(bare) or moment_of(bare)
    if found is None:
        return [0] + text(written) + [0]
    z, picture = found
    return [0, 1, z, len(picture)] + list(picture.encode())


def number_of(bare):
    found = NUMBER.fullmatch(bare) or BRACKETED.fullmatch(bare)
    if not found:
        return None
    digits = found["whole"].replace(",", "")
    rest = found["rest"] or ""
    if not 1 <= len(digits + rest) <= 60:
        return None
    # round takes halves of a fraction to the even one.
    z = round(fractions.Fraction(int(digits + rest)) / 10 ** len(rest) * fractions.Fraction(10) ** int(found["e"] or 0)
              * 10 ** 12)
    if found["p"]:
        z = round(fractions.Fraction(z, 100))
    if z >= 10 ** 36:
        return None
    picture = ("0.00%" if rest else "0%") if found["p"] else ""
    if "," in bare and not picture:
        picture = "#,##0.00" if rest else "#,##0"
    return -z if bare[0] in "-(" else z, picture


def moment_of(bare):
    for form in MOMENTS:
        found = form.fullmatch(bare)
        if found:
            return day_and_time(found.groupdict())
    return None


def day_and_time(found):
    days, pictures, time = 0, [], fractions.Fraction(0)
    year = [(found[f"y{k}"], found[f"m{k}"], found[f"d{k}"]) for k in "123" if found.get(f"y{k}")]
    if year:
        try:
            date = datetime.date(*map(int, year[0]))
        except ValueError:
            return None
        days = (date - datetime.date(1899, 12, 31)).days
        if days < 1:
            return None
        pictures.append("yyyy-mm-dd")
    if found.get("h"):
        hour = int(found["h"])
        if found["noon"]:
            if not 1 <= hour <= 12:
                return None
            hour = hour % 12 + 12 * (found["noon"] in "pP")
        if hour > 23:
            return None
        time = (hour * 60 + int(found["min"])) * 60 + fractions.Fraction(found["s"] or 0)
        pictures.append("h:mm:ss" if found["sec"] else "h:mm")
    return round((days + time / 86400) * 10 ** 12), " ".join(pictures)


class AgainstTheModel(unittest.TestCase):
    def compare_one(self, written):
        self.assertEqual(typed(list(written.encode())), model(written), written)

    def compare(self, parts, most):
        for many in range(most + 1):
            for chosen in itertools.product(parts, repeat=many):
                self.compare_one("".join(chosen))

    def test_numbers(self):
        self.compare("(-1.,%e)", 5)

    def test_signs_and_digits(self):
        self.compare(["+", "-", "(", ")", "12", "345", ",", ".", "E", "%"], 5)

    def test_groups(self):
        self.compare(["1", "22", "333", "4444", ",", "."], 6)

    def test_exponents(self):
        self.compare(["1", "25", "e", "E", "+", "-", ".", "%"], 5)

    def test_days(self):
        self.compare(["2024", "1900", "2", "29", "00", "-", ".", "/", "5"], 5)

    def test_times(self):
        self.compare(["1", "12", "59", "60", ":", ".", " ", "am", "PM"], 5)

    def test_both(self):
        self.compare(["2024-02-29", "1.3.2023", "2/29/2023", " ", "6:30", "13:00", "7:08:09.5", "PM", "am"], 4)

    def test_words(self):
        self.compare(["'", " ", "true", "FALSE", "#N/A", "#n/a", "5", "\u00e9"], 4)

    def test_many_numbers(self):
        chosen = random.Random(4)
        for _ in range(4000):
            whole = "".join(chosen.choices("0123456789", k=chosen.randrange(30)))
            rest = "".join(chosen.choices("0005", k=chosen.randrange(20)))
            rest += chosen.choice(("", "5", "50", "500", "49", "51"))
            exponent = chosen.choice(("", "", "e1", "e-5", "E+12", "e-13", "e-24", "e7"))
            sign = chosen.choice(("", "-", "+"))
            self.compare_one(sign + whole + "." + rest + exponent + chosen.choice(("", "%")))

    def test_halves(self):
        for many, shift in itertools.product(range(0, 1000, 5), range(11, 17)):
            for percent in ("", "%"):
                self.compare_one(f"{many}e-{shift}{percent}")
                self.compare_one(f"-{many}e-{shift}{percent}")
                self.compare_one(f"{many}.5e-{shift}{percent}")

    def test_large_numbers(self):
        for many, exponent in itertools.product(("1", "9.99", "0.1", "99999999999999999999", "1,000"), range(0, 40)):
            for percent in ("", "%"):
                self.compare_one(f"{many}e{exponent}{percent}")

    def test_each_minute_and_some_seconds(self):
        for minute in range(1440):
            self.compare_one(f"{minute // 60}:{minute % 60}")
            self.compare_one(f"2024-02-29 {minute // 60}:{minute % 60:02}:{minute % 60}.{minute % 1000}")

    def test_what_is_typed_is_shown_so_by_its_picture(self):
        # Times without seconds aren't here: some are a bit less than their minute, and are cut off.
        for written in ("2024-02-29", "1900-01-01", "9999-12-31", "6:30:00", "23:59:00", "0:00:00", "8:00:01",
                        "16:00:59", "2023-12-31 0:00:00", "2023-12-31 23:59:01", "9999-12-31 23:59:59", "50%", "12.25%",
                        "1,234", "1,234.50", "-1,234", "6:00", "12:45"):
            answer = typed(list(written.encode()))
            shown = show(answer[4:], answer[1:3])
            self.assertEqual(bytes(shown[2:]).decode(), written)

    def test_each_number_as_it_is_is_read_back(self):
        chosen = random.Random(5)
        for _ in range(2000):
            z = chosen.randrange(10 ** chosen.randrange(1, 37)) * chosen.choice((1, -1))
            shown = show([64], [1, z])[2:]
            self.assertEqual(typed(shown), [0, 1, z, 0])


if __name__ == "__main__":
    unittest.main()
