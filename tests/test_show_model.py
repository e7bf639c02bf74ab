"""Compares show with a second writing of the document, over fractions, texts and Python's own calendar."""

import datetime
import fractions
import itertools
import math
import operator
import random
import re
import unittest

from helper import bytes_of
from numberpictures.pictures import show
from test_model import COLOURS, EXPRESSIONS, kind_of, pieces_of

Fraction = fractions.Fraction

OPERATORS = {"<=": operator.le, ">=": operator.ge, "<>": operator.ne, "<": operator.lt, ">": operator.gt,
             "=": operator.eq}


def tokens_of(section):
    """The pieces of a section as pairs of the model's letter and the text that it matched."""
    tokens, at, octets = [], 0, section.encode()
    while at < len(octets):
        letter, found = next((letter, found) for letter, found in
                             ((letter, expression.match(octets, at)) for letter, expression in EXPRESSIONS) if found)
        tokens.append((letter, found.group().decode()))
        at = found.end()
    return tokens


def literal(matched):
    if matched[0] == '"':
        return matched[1:-1]
    if matched[0] == "_":
        return " "
    return matched[1:] if matched[0] == "\\" else matched


def half_up(fraction):
    return math.floor(fraction + Fraction(1, 2))


def plainly(number):
    whole, decimals = divmod(int(number * 10 ** 12), 10 ** 12)
    return f"{whole}.{decimals:012}".rstrip("0").rstrip(".")


def digits_shown(tokens, number):
    """What a section of digits shows, and the number's own digits in it."""
    letters = "".join(letter for letter, _ in tokens)
    front = letters.partition("E")[0]
    before, _, behind = front.partition(".")
    size = len(re.findall("[0#]", before))
    decimals = len(re.findall("[0#]", behind))
    number *= 100 ** front.count("%")
    if size:
        number /= 1000 ** len(re.search(r"[^0#]*$", before).group().replace("t", "").replace("%", "").replace("c", "")
                              .replace("q", ""))
    exponent = 0
    if "E" in letters and number:
        while number < Fraction(10) ** exponent:
            exponent -= size
        while number >= Fraction(10) ** (exponent + size):
            exponent += size
        if half_up(number / Fraction(10) ** exponent * 10 ** decimals) == 10 ** (size + decimals):
            exponent += size
    rounded = half_up(number / Fraction(10) ** exponent * 10 ** decimals)
    written = str(rounded).zfill(decimals + 1)
    whole, rest = written[:len(written) - decimals].lstrip("0"), written[len(written) - decimals:]
    groups = re.search(r"[0#].*,.*[0#]", before) is not None
    shown, own = lay_out([token for token in tokens[:len(front)]], size, whole, rest, groups)
    if "E" in letters:
        sign = "-" if exponent < 0 else "+" if tokens[len(front)][1] == "E+" else ""
        shown += "E" + sign + str(abs(exponent)).zfill(letters.partition("E")[2].count("0"))
    return shown, own


def lay_out(tokens, size, whole, rest, groups):
    # From the last piece to the first, so that what stands behind a digit before the point is known.
    shown, own, behind_point = [], "", any(letter == "." for letter, _ in tokens)
    places, counted, rest_at = size, 0, len(rest)
    for letter, matched in reversed(tokens):
        if letter in "0#" and behind_point:
            rest_at -= 1
            if not rest[rest_at:].strip("0"):
                sign = {"0": "0", "#": "", "?": " "}[matched]
            else:
                sign = rest[rest_at]
            shown.append(sign)
            own += sign
        elif letter in "0#":
            places -= 1
            taken, whole = (whole, "") if places == 0 else (whole[-1:], whole[:-1])
            for sign in reversed(taken or {"0": "0", "#": "", "?": " "}[matched]):
                if groups and counted and counted % 3 == 0:
                    shown.append(" " if sign == " " else ",")
                shown.append(sign)
                own += sign
                counted += 1
        elif letter == ".":
            behind_point = False
            shown.append(".")
        elif letter == "%":
            shown.append("%")
        elif letter == "t":
            shown.append(literal(matched))
    return "".join(reversed(shown)), own


def time_shown(tokens, number):
    if number < 0:
        return None
    parts = [matched.lower() for letter, matched in tokens if letter == "T" and "/" not in matched]
    seconds = [part for part in parts if "s" in part]
    total = number * 86400
    if seconds:
        most = 10 ** max(part.count("0") for part in seconds)
        total = Fraction(half_up(total * most), most)
    else:
        total = Fraction(math.floor(total))
    if total >= 2958465 * 86400:
        return None
    noon = any("/" in matched for letter, matched in tokens if letter == "T")
    shown, at = "", 0
    for letter, matched in tokens:
        if letter == "t":
            shown += literal(matched)
        elif letter == "T" and "/" in matched:
            word = "AM" if total % 86400 < 43200 else "PM"
            shown += word if len(matched) == 5 else word[0]
        elif letter == "T":
            before = parts[at - 1] if at else ""
            behind = parts[at + 1] if at + 1 < len(parts) else ""
            minutes = re.fullmatch("mm?", parts[at]) and ("h" in before or "s" in behind)
            shown += part_shown("n" * len(parts[at]) if minutes else parts[at], total, noon)
            at += 1
    return shown


def part_shown(part, total, noon):
    days, time = divmod(total, 86400)
    moment = datetime.datetime(1900, 1, 1) + datetime.timedelta(days=max(int(days), 1) - 1, seconds=math.floor(time))
    letters, point, zeros = part.strip("[]").replace("]", "").partition(".")
    size = len(letters)
    decimals = point + str(math.floor(total % 1 * 1000)).zfill(3)[:len(zeros)]
    if part.startswith("["):
        return str(math.floor(total / {"h": 3600, "m": 60, "s": 1}[letters[0]])).zfill(size) + decimals
    day = moment.day if days else 0
    weekday = ["Sunday", "Monday", "Tuesday", "Wednesday", "Thursday", "Friday", "Saturday"][int(days) % 7]
    month = moment.strftime("%B")
    if letters[0] == "y":
        return f"{moment.year % 100:02}" if size < 3 else str(moment.year)
    if letters[0] == "m":
        return [str(moment.month), f"{moment.month:02}", month[:3], month, month[0]][size - 1]
    if letters[0] == "d":
        return [str(day), f"{day:02}", weekday[:3], weekday][size - 1]
    if letters[0] == "h":
        return str((moment.hour % 12 or 12) if noon else moment.hour).zfill(size)
    if letters[0] == "n":
        return str(moment.minute).zfill(size)
    return str(moment.second).zfill(size) + decimals


def fits(tokens, at, many, number):
    conditions = [matched for letter, matched in tokens if letter == "q"]
    if conditions:
        sign, limit = re.fullmatch(r"\[([<>=]+)(.*)\]", conditions[0]).groups()
        return OPERATORS[sign](number, Fraction(limit))
    rules = {1: (True,), 2: (number >= 0, True), 3: (number > 0, number < 0, True)}
    return rules[many][at]


def model(picture, z):
    """The answer for a number by a picture that is right."""
    number = Fraction(z, 10 ** 12)
    octets = picture.encode()
    letters = [letters for letters, _ in pieces_of(octets)]
    sections, rest = [], tokens_of(picture)
    for many in map(len, letters):
        sections.append(rest[:many])
        rest = rest[many + 1:]
    kinds = [kind_of(section) for section in letters]
    if len(sections) == 4 or kinds[-1] == 3:
        sections, kinds = sections[:-1], kinds[:-1]
    for at, (tokens, kind) in enumerate(zip(sections, kinds)):
        if fits(tokens, at, len(sections), number):
            return by_section(tokens, kind, at, number)
    return answer(0, ("-" if number < 0 else "") + plainly(abs(number)))


def by_section(tokens, kind, at, number):
    colour = sum(COLOURS.index(matched[1:-1].lower()) + 1 for letter, matched in tokens if letter == "c")
    minus = "-" if number < 0 else ""
    if at == 1 and not any(letter == "q" for letter, _ in tokens):
        minus = ""
    if kind == 2:
        shown = time_shown(tokens, number)
        return [-4] if shown is None else answer(colour, shown)
    if kind == 1:
        shown, own = digits_shown(tokens, abs(number))
        return answer(colour, (minus if own.strip("0 ") else "") + shown)
    shown = "".join(literal(matched) if letter == "t" else plainly(abs(number)) if letter == "G" else ""
                    for letter, matched in tokens)
    return answer(colour, minus + shown)


def answer(colour, shown):
    return [colour, len(shown.encode())] + bytes_of(shown)


ONE = 10 ** 12
SOME = (0, 1, ONE // 2, ONE // 2 - 1, ONE, 5 * ONE, 95 * ONE // 10, 994999 * ONE // 1000, 99995 * ONE // 100,
        1234567 * ONE + 891234567891, 10 ** 36 - 1, 25 * 10 ** 10, 10 ** 9, 1050 * ONE, 12 * ONE)
NUMBERS = SOME + tuple(-z for z in SOME if z)

MOMENTS = (0, ONE - 1, ONE // 2, ONE, 59 * ONE + 123456789012, 60 * ONE, 36584 * ONE + 999999999999,
           45350 * ONE + 52083333333, 2958464 * ONE + 999988425926, 2958465 * ONE - 1, 2958465 * ONE,
           366 * ONE - 5787037, 156250, 156250000, 45350 * ONE + 541724537037)


class AgainstTheModel(unittest.TestCase):
    def compare(self, parts, most, numbers):
        for many in range(1, most + 1):
            for chosen in itertools.product(parts, repeat=many):
                self.compare_one("".join(chosen), numbers)

    def compare_one(self, picture, numbers):
        octets = bytes_of(picture)
        if show(octets, [0]) == [-3]:
            return
        for z in numbers:
            self.assertEqual(show(octets, [1, z]), model(picture, z), (picture, z))

    def test_digits(self):
        self.compare(["0", "#", "?", ".", ",", "%"], 5, NUMBERS[::3])

    def test_digits_with_texts(self):
        self.compare(["0", "?", ".", ",", '"x"'], 5, NUMBERS[1::4])

    def test_longer_digits(self):
        chosen = random.Random(1)
        for _ in range(1500):
            before = "".join(chosen.choices("00##??,,%-", k=chosen.randrange(1, 12)))
            behind = "".join(chosen.choices("0#?%-", k=chosen.randrange(7)))
            numbers = [chosen.randrange(10 ** chosen.randrange(1, 37)) * chosen.choice((1, -1)) for _ in range(4)]
            self.compare_one(chosen.choice((before, before + "." + behind)), numbers)

    def test_exponents(self):
        for before, behind, sign, zeros in itertools.product(
                ("0", "#", "?0", "#?0", "0000", "#####", '0"x"0', "0" * 13), (".", ".0", ".#?", ".00", ".???", ""),
                "+-", ("0", "00", "000")):
            self.compare_one(f"{before}{behind}E{sign}{zeros}", NUMBERS)

    def test_exponents_of_many_numbers(self):
        chosen = random.Random(2)
        for picture in ("0E+0", "0.0E+0", "##0.0E+0", "#0E-00", "0000.00E+0", "??????0.##E+000"):
            nines = [10 ** many - offset for many in range(1, 37) for offset in (1, 5 * 10 ** max(many - 3, 0), 0)]
            mixed = [chosen.randrange(10 ** chosen.randrange(1, 37)) for _ in range(200)]
            self.compare_one(picture, [z for z in nines + mixed if z < 10 ** 36])

    def test_days_and_times(self):
        self.compare(["y", "m", "d", "h", "s", "[h]", "[m]", "[s].0", "A/P", "s.00", ":"], 3, MOMENTS)

    def test_minutes_among_neighbours(self):
        self.compare(["m", " ", "h", "s", "[s]", "[h]", "AM/PM", "d"], 4, MOMENTS[4:8:2])

    def test_each_day(self):
        for z in itertools.chain(range(0, 800), range(36400, 37000), range(73000, 73200), range(2958000, 2958467),
                                 range(0, 2958464, 9973)):
            self.compare_one("y yyyy-m-mm-mmm-mmmm-mmmmm-d-dd-ddd-dddd", [z * ONE])

    def test_many_moments(self):
        chosen = random.Random(3)
        for picture in ("yyyy-mm-dd hh:mm:ss", "h:mm:ss.0 AM/PM", "[h]:mm:ss.000", "[mm]:s.00", "[s].000 s s.0",
                        "h:m A/P"):
            self.compare_one(picture, [chosen.randrange(10 ** chosen.randrange(1, 20)) for _ in range(300)])

    def test_sections(self):
        parts = ["0", "[Red]0.0", "[<-1]General", "[>=5][Blue]#", '"x"', "h", "", "@", "[<>0]?"]
        for many in range(1, 5):
            for chosen in itertools.product(parts, repeat=many):
                self.compare_one(";".join(chosen), (0, -1, 5 * ONE, -5 * ONE, -ONE // 4, 3 * ONE + 5))


if __name__ == "__main__":
    unittest.main()
