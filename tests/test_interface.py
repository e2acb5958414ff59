import contextlib
import inspect
import io
import sys
import unittest

import straightseamsdesk.tops
from helper import WINDMILL, numbers
from straightseamsdesk.tops import can, line

MOST = 4294967295

TEXTS = (
    numbers("a\n"),
    numbers("a b\nc d\n"),
    numbers(WINDMILL),
    numbers("abcd abcd abcd abcd abcd abcd\n" * 6),
    numbers("ab\n"),
    [],
    [97] * 1024,
    [97] * 1100,
)

ASKED = ((0, 65), (1, 65), (2, 63), (3, 66), (3, 0), (3, MOST), (4, 64), (MOST, MOST))


class Unchanging(list):
    """A list that can't be changed, not for a while either."""

    def refuse(self, *anything):
        raise AssertionError("what was handed in is changed")

    append = clear = extend = insert = pop = remove = reverse = sort = refuse
    __setitem__ = __delitem__ = __iadd__ = __imul__ = refuse


def all_answers():
    answers = [can(list(text)) for text in TEXTS]
    for text in TEXTS:
        answers.extend(line(direction, at64, list(text)) for direction, at64 in ASKED)
    return answers


class Interface(unittest.TestCase):
    def test_names_and_order_of_arguments(self):
        self.assertEqual(list(inspect.signature(straightseamsdesk.tops.can).parameters), ["text"])
        self.assertEqual(list(inspect.signature(straightseamsdesk.tops.line).parameters), ["direction", "at64", "text"])

    def test_one_list_of_whole_numbers(self):
        for answer in all_answers():
            self.assertIs(type(answer), list)
            self.assertEqual({type(number) for number in answer}, {int})
            self.assertEqual(len(answer), 2 if answer[0] == 0 else 1)

    def test_what_is_handed_in_is_the_same_afterwards(self):
        for text in TEXTS:
            handed = list(text)
            can(handed)
            self.assertEqual(handed, text)
            for direction, at64 in ASKED:
                line(direction, at64, handed)
                self.assertEqual(handed, text)

    def test_what_is_handed_in_is_not_changed_for_a_while(self):
        for text in TEXTS:
            can(Unchanging(text))
            for direction, at64 in ASKED:
                line(direction, at64, Unchanging(text))

    def test_the_same_call_twice(self):
        self.assertEqual(all_answers(), all_answers())
        for text in TEXTS:
            self.assertEqual(can(text), can(text))
            for direction, at64 in ASKED:
                self.assertEqual(line(direction, at64, text), line(direction, at64, text))

    def test_an_answer_that_is_changed_spoils_no_later_one(self):
        for text in TEXTS:
            first = can(text)
            kept = list(first)
            first.append(7)
            self.assertEqual(can(text), kept)

    def test_nothing_is_printed(self):
        out = io.StringIO()
        with contextlib.redirect_stdout(out), contextlib.redirect_stderr(out):
            all_answers()
        self.assertEqual(out.getvalue(), "")

    def test_long_ways_are_gone_by_loops(self):
        texts = (TEXTS[3], numbers("a a a a a a\n" * 6), [97] * 1024, [10] * 1024)
        usual = sys.getrecursionlimit()
        sys.setrecursionlimit(len(inspect.stack()) + 25)
        try:
            answers = [can(text) for text in texts]
        finally:
            sys.setrecursionlimit(usual)
        self.assertEqual(answers, [[0, 1], [0, 1], [-6], [-6]])


if __name__ == "__main__":
    unittest.main()
