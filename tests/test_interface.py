"""What the interface says of every call: what is handed in stays, nothing is kept, nothing is printed."""

import contextlib
import copy
import inspect
import io
import itertools
import sys
import unittest
from unittest import mock

from helper import LAST_DAY, LEAST, MOST, bytes_of, number, text
from numberpictures.pictures import check, date, day_number, show, typed

PICTURES = ("", "0", "[Red]#,##0.00;[Blue](0);General;@", "[h]:mm:ss.000", '"a;b"\\;_\u00e9', "0E+00[>5]", "x", "[",
            '"', "0;0;0;0", "\\", " " * 255, " " * 256)


VALUES = ([0], [1, 0], [1, 1234567891234567], [1, -5 * 10 ** 11], [1, 10 ** 36 - 1], [1, 10 ** 36], [1, -2 ** 127],
          text("abc"), text(""), text("\u00e9" * 2048), text("a" * 7990), text(b"\xff"), [3, 0], [3, 1], [4, 1], [4, 8],
          [4, 9])


TEXTS = ("", "  ", "'", "' a ", " 'a", "true", "#N/A", "5", " -5.5 ", "(1,000.5%)", "1e5", "2024-02-29", "6:30 PM",
         "29.2.2024 6:30:15.5", "a b ", "\u00e9", "1" * 60, "1" * 61, "1e99", b"\xff", "a" * 4096, "a" * 4097,
         " " * 65535)

DAYS = ((1900, 1, 1), (1900, 2, 29), (2024, 2, 29), (2023, 12, 31), (9999, 12, 31), (10000, 1, 1), (2024, 13, 1),
        (2024, 1, 0), (LEAST, LEAST, LEAST), (MOST, MOST, MOST))

NUMBERS = (1, 59, 60, 45350, LAST_DAY, 0, -1, LAST_DAY + 1, LEAST, MOST)

# Of each call the name, what is handed in and what is answered: all are answered, all are refused, and edges.
FIVE_CALLS = (
    (("check", [bytes_of("[Red]0.0;@")], [2, 6, 1, 0, 3]),
     ("show", [bytes_of("[Red]0.0;@"), number("-2.25")], [6, 4] + bytes_of("-2.3")),
     ("typed", [bytes_of(" 29.2.2024 ")], [0, 1, 45350 * 10 ** 12, 10] + bytes_of("yyyy-mm-dd")),
     ("day_number", [2024, 2, 29], [45350]),
     ("date", [45350], [0, 2024, 2, 29, 4])),
    (("check", [bytes_of("0.0.0")], [-3]),
     ("show", [bytes_of("yyyy"), number("-1")], [-4]),
     ("typed", [[255]], [-1]),
     ("day_number", [2023, 2, 29], [-1]),
     ("date", [0], [-1])),
    (("check", [[]], [1, 0, 0]),
     ("show", [bytes_of("0;0;0;@@"), text("ab")], [0, 4] + bytes_of("abab")),
     ("typed", [bytes_of("false")], [0, 3, 0, 0]),
     ("day_number", [1900, 1, 1], [1]),
     ("date", [LAST_DAY], [0, 9999, 12, 31, 5])),
)

BY_NAME = {"check": check, "show": show, "typed": typed, "day_number": day_number, "date": date}


def pairs():
    """Each picture with each value."""
    return [(bytes_of(picture), list(value)) for picture in PICTURES for value in VALUES]


class Unchanging(list):
    """A list that can be read alone."""

    def refuse(self, *args, **kwargs):
        raise AssertionError("the list that was handed in is changed")

    __setitem__ = __delitem__ = __iadd__ = __imul__ = refuse
    append = extend = insert = pop = remove = clear = reverse = sort = refuse


class Interface(unittest.TestCase):
    def calls(self, kind=list):
        """All answers: what is handed in are lists of this kind."""
        answers = [check(kind(bytes_of(picture))) for picture in PICTURES]
        answers += [show(kind(picture), kind(value)) for picture, value in pairs()]
        answers += [typed(kind(bytes_of(written))) for written in TEXTS]
        answers += [day_number(year, month, day) for year, month, day in DAYS]
        answers += [date(number) for number in NUMBERS]
        return answers

    def test_parameters(self):
        self.assertEqual(list(inspect.signature(check).parameters), ["picture"])
        self.assertEqual(check(picture=[48]), [1, 0, 1])
        self.assertEqual(list(inspect.signature(show).parameters), ["picture", "value"])
        self.assertEqual(show(picture=[48], value=[1, 7 * 10 ** 12]), [0, 1, 55])
        self.assertEqual(list(inspect.signature(typed).parameters), ["text"])
        self.assertEqual(typed(text=[55]), [0, 1, 7 * 10 ** 12, 0])
        self.assertEqual(list(inspect.signature(day_number).parameters), ["year", "month", "day"])
        self.assertEqual(day_number(day=29, month=2, year=2024), [45350])
        self.assertEqual(list(inspect.signature(date).parameters), ["number"])
        self.assertEqual(date(number=45350), [0, 2024, 2, 29, 4])

    def test_what_is_handed_in_is_not_changed(self):
        handed = []

        def keep(codes):
            handed.append((list(codes), codes))
            return codes

        self.calls(keep)
        self.assertGreater(len(handed), 2 * len(PICTURES))
        for before, behind in handed:
            self.assertEqual(before, behind)

    def test_not_for_a_while_either(self):
        self.calls(Unchanging)

    def test_an_answer_is_a_list_of_its_own(self):
        for value in VALUES:
            picture = [64]
            handed = list(value)
            show(picture, handed).append(99)
            self.assertEqual((picture, handed), ([64], value))
        for written in TEXTS:
            handed = bytes_of(written)
            typed(handed).append(99)
            self.assertEqual(handed, bytes_of(written))

    def test_twice_gives_the_same(self):
        self.assertEqual(self.calls(), self.calls())
        first = [show(picture, value) for picture, value in pairs()]
        second = [show(picture, value) for picture, value in reversed(pairs())]
        self.assertEqual(first, second[::-1])
        first = [typed(bytes_of(written)) for written in TEXTS]
        second = [typed(bytes_of(written)) for written in reversed(TEXTS)]
        self.assertEqual(first, second[::-1])

    def answers_as_told(self, name, handed, expected):
        given = copy.deepcopy(handed)
        answer = BY_NAME[name](*given)
        self.assertEqual(answer, expected)
        self.assertEqual({type(one) for one in answer}, {int})
        self.assertIs(type(answer), list)
        self.assertEqual(given, handed)

    def test_the_five_calls_in_any_order_and_each_twice(self):
        for calls in FIVE_CALLS:
            for order in itertools.permutations(calls):
                for name, handed, expected in order:
                    self.answers_as_told(name, handed, expected)
                    self.answers_as_told(name, handed, expected)
                for name, handed, expected in order:
                    self.answers_as_told(name, handed, expected)

    def test_one_list_handed_in_again_and_again(self):
        codes = bytes_of("yyyy-mm-dd")
        value = number("45350")
        for _ in range(3):
            self.assertEqual(check(codes), [1, 0, 2])
            self.assertEqual(show(codes, value), [0, 10] + bytes_of("2024-02-29"))
            self.assertEqual(typed(codes), [0, 2, 10] + codes + [0])
        self.assertEqual((codes, value), (bytes_of("yyyy-mm-dd"), number("45350")))

    def tops(self):
        """All values at the tops of the package's files, as they are now."""
        modules = [module for name, module in sorted(sys.modules.items()) if name.split(".")[0] == "numberpictures"]
        return [(module.__name__, name, repr(value)) for module in modules for name, value in vars(module).items()
                if not name.startswith("__")]

    def test_nothing_is_kept_at_the_tops_of_files(self):
        before = self.tops()
        self.calls()
        self.assertGreater(len(before), 100)
        self.assertEqual(self.tops(), before)

    def test_what_is_done_to_an_answer_is_not_seen_again(self):
        kept = self.calls()
        for answer in self.calls():
            answer.append(99)
            answer[0] = 98
        self.assertEqual(self.calls(), kept)

    def test_answers_are_lists_of_whole_numbers(self):
        for answer in self.calls():
            self.assertIs(type(answer), list)
            self.assertEqual({type(number) for number in answer}, {int})

    def test_a_refusal_is_its_number_alone(self):
        for answer in self.calls():
            self.assertTrue(answer[0] >= 0 or answer in ([-1], [-3], [-4]), answer)

    def test_bytes_stand_behind_how_many_they_are(self):
        for picture, value in pairs():
            answer = show(picture, value)
            if answer[0] >= 0:
                self.assertEqual(answer[1], len(answer) - 2)
                self.assertLessEqual(answer[0], 8)

    def test_what_is_typed_is_answered_with_a_value_and_a_picture(self):
        sizes = {0: 1, 1: 2, 3: 2, 4: 2}
        for written in TEXTS:
            answer = typed(bytes_of(written))
            if answer[0] == 0:
                size = 2 + answer[2] if answer[1] == 2 else sizes[answer[1]]
                picture = answer[2 + size:]
                self.assertEqual(answer[1 + size], len(picture))
                # The value and the picture are such that they can be shown.
                self.assertGreaterEqual(show(picture, answer[1:1 + size])[0], 0)

    def test_nothing_is_printed_read_or_imported(self):
        out = io.StringIO()
        before = set(sys.modules)
        with contextlib.redirect_stdout(out), contextlib.redirect_stderr(out), \
                mock.patch("builtins.open", side_effect=AssertionError), \
                mock.patch("builtins.input", side_effect=AssertionError), \
                mock.patch("builtins.__import__", side_effect=AssertionError):
            self.calls()
        self.assertEqual(out.getvalue(), "")
        self.assertEqual(set(sys.modules), before)

    def test_long_input_needs_no_deep_calls(self):
        limit = sys.getrecursionlimit()
        sys.setrecursionlimit(len(inspect.stack()) + 40)
        try:
            answers = [check([32] * 255), check([34] * 254), check([104, 109] * 127), check([91] * 65535)]
            shown = [show([64] * 255, text("a" * 4096)), show([104, 109] * 127, [1, 0]), show([91] * 65535, [0]),
                     show([48], text("a" * 7990))]
            read = [typed([32] * 4096), typed([49] * 4096), typed([40] * 4096), typed([44] * 4096), typed([32] * 65535)]
        finally:
            sys.setrecursionlimit(limit)
        self.assertEqual(answers, [[1, 0, 0], [1, 0, 0], [1, 0, 2], [-3]])
        self.assertEqual([len(answer) for answer in shown], [2 + 255 * 4096, 2 + 254, 1, 1])
        self.assertEqual([len(answer) for answer in read], [3, 4 + 4096, 4 + 4096, 4 + 4096, 1])


if __name__ == "__main__":
    unittest.main()
