"""What the interface says of every call: what is handed in stays, nothing is kept, nothing is printed."""

import contextlib
import inspect
import io
import sys
import unittest
from unittest import mock

from helper import bytes_of
from numberpictures.pictures import check

PICTURES = ("", "0", "[Red]#,##0.00;[Blue](0);General;@", "[h]:mm:ss.000", '"a;b"\\;_\u00e9', "0E+00[>5]", "x", "[", '"',
            "0;0;0;0", "\\", " " * 255, " " * 256)


class Unchanging(list):
    """A list that can be read alone."""

    def refuse(self, *args, **kwargs):
        raise AssertionError("the list that was handed in is changed")

    __setitem__ = __delitem__ = __iadd__ = __imul__ = refuse
    append = extend = insert = pop = remove = clear = reverse = sort = refuse


class Interface(unittest.TestCase):
    def test_parameter(self):
        self.assertEqual(list(inspect.signature(check).parameters), ["picture"])
        self.assertEqual(check(picture=[48]), [1, 0, 1])

    def test_what_is_handed_in_is_not_changed(self):
        for picture in PICTURES:
            handed = bytes_of(picture)
            before = list(handed)
            check(handed)
            self.assertEqual(handed, before)

    def test_not_for_a_while_either(self):
        for picture in PICTURES:
            check(Unchanging(bytes_of(picture)))

    def test_twice_gives_the_same(self):
        first = [check(bytes_of(picture)) for picture in PICTURES]
        second = [check(bytes_of(picture)) for picture in reversed(PICTURES)]
        self.assertEqual(first, second[::-1])

    def test_what_is_done_to_an_answer_is_not_seen_again(self):
        for picture in PICTURES:
            answer = check(bytes_of(picture))
            kept = list(answer)
            answer.append(99)
            answer[0] = 98
            self.assertEqual(check(bytes_of(picture)), kept)

    def test_answers_are_lists_of_whole_numbers(self):
        for picture in PICTURES:
            answer = check(bytes_of(picture))
            self.assertIs(type(answer), list)
            self.assertEqual({type(number) for number in answer}, {int})

    def test_nothing_is_printed_read_or_imported(self):
        out = io.StringIO()
        before = set(sys.modules)
        with contextlib.redirect_stdout(out), contextlib.redirect_stderr(out), \
                mock.patch("builtins.open", side_effect=AssertionError), \
                mock.patch("builtins.input", side_effect=AssertionError), \
                mock.patch("builtins.__import__", side_effect=AssertionError):
            for picture in PICTURES:
                check(bytes_of(picture))
        self.assertEqual(out.getvalue(), "")
        self.assertEqual(set(sys.modules), before)

    def test_long_pictures_need_no_deep_calls(self):
        limit = sys.getrecursionlimit()
        sys.setrecursionlimit(len(inspect.stack()) + 40)
        try:
            answers = [check([32] * 255), check([34] * 254), check([104, 109] * 127), check([91] * 65535)]
        finally:
            sys.setrecursionlimit(limit)
        self.assertEqual(answers, [[1, 0, 0], [1, 0, 0], [1, 0, 2], [-3]])


if __name__ == "__main__":
    unittest.main()
