import contextlib
import copy
import inspect
import io
import sys
import unittest

import straightseamsdesk.tops
from helper import EVERY_QUARTER, EVERY_SQUARE, WINDMILL, numbers
from straightseamsdesk.tops import can, check, dayplan, days, line, lock, plan

MOST = 4294967295

PARAMETERS = {
    "can": ["text"],
    "line": ["direction", "at64", "text"],
    "plan": ["text"],
    "lock": ["text"],
    "check": ["text", "row"],
    "days": ["text"],
    "dayplan": ["text"],
}

TEXTS = (
    numbers("a\n"),
    numbers("a b\nc d\n"),
    numbers("a/b c\\d\ne efgh\n"),
    numbers(WINDMILL),
    numbers("f a a b\nf d e b\nf d c c\n"),
    numbers("a b c d e\nf g h i j\n"),
    numbers(EVERY_SQUARE),
    numbers(EVERY_QUARTER),
    numbers("ab\n"),
    [],
    [97] * 1024,
    [97] * 1100,
)

ROWS = (
    [],
    [4],
    [4, 0],
    [0, 65, 1, 65, 4, 0, 4, 2, 1, 65, 4, 1, 4, 3],
    plan(numbers(EVERY_QUARTER))[1:],
    [0, 65] * 350,
    [4, 0] * 350,
    [MOST] * 700,
)

LINES = ((0, 65), (1, 65), (2, 63), (3, 66), (3, 0), (3, MOST), (4, 64), (MOST, MOST))


class Unchanging(list):
    """A list that can't be changed, not for a while either."""

    def refuse(self, *anything):
        raise AssertionError("what was handed in is changed")

    append = clear = extend = insert = pop = remove = reverse = sort = refuse
    __setitem__ = __delitem__ = __iadd__ = __imul__ = refuse


def all_asked(kind=list):
    """Each call with what it is handed; the lists made anew, of that kind."""
    asked = []
    for text in TEXTS:
        asked.extend((call, (kind(text),)) for call in (can, plan, lock, days, dayplan))
        asked.extend((line, (direction, at64, kind(text))) for direction, at64 in LINES)
        asked.extend((check, (kind(text), kind(row))) for row in ROWS)
    return asked


def all_answers():
    return [call(*handed) for call, handed in all_asked()]


class Interface(unittest.TestCase):
    def test_names_and_order_of_arguments(self):
        for name, parameters in PARAMETERS.items():
            call = getattr(straightseamsdesk.tops, name)
            self.assertEqual(list(inspect.signature(call).parameters), parameters)

    def test_one_list_of_whole_numbers(self):
        for answer in all_answers():
            self.assertIs(type(answer), list)
            self.assertEqual({type(number) for number in answer}, {int})

    def test_a_refusal_stands_alone(self):
        for answer in all_answers():
            if answer[0] == 0:
                self.assertGreater(len(answer), 1)
                self.assertGreaterEqual(min(answer), 0)
            else:
                self.assertLess(answer[0], 0)
                self.assertEqual(len(answer), 1)

    def test_what_is_handed_in_is_the_same_afterwards(self):
        for call, handed in all_asked():
            kept = copy.deepcopy(handed)
            call(*handed)
            self.assertEqual(handed, kept)

    def test_what_is_handed_in_is_not_changed_for_a_while(self):
        for call, handed in all_asked(Unchanging):
            call(*handed)

    def test_the_same_call_twice(self):
        self.assertEqual(all_answers(), all_answers())
        for call, handed in all_asked():
            self.assertEqual(call(*handed), call(*handed))

    def test_an_answer_that_is_changed_spoils_no_later_one(self):
        for call, handed in all_asked():
            first = call(*handed)
            kept = list(first)
            first.append(7)
            first[0] = 7
            self.assertEqual(call(*handed), kept)

    def test_nothing_is_printed(self):
        out = io.StringIO()
        with contextlib.redirect_stdout(out), contextlib.redirect_stderr(out):
            all_answers()
        self.assertEqual(out.getvalue(), "")

    def test_long_ways_are_gone_by_loops(self):
        for call, handed in all_asked():
            wanted = call(*handed)
            # What these two go through is never nested deeper than 10 patches are.
            deepest = 60 if call in (days, dayplan) else 25
            self.assertEqual(self.answer_within(deepest, call, handed), wanted)

    def answer_within(self, deepest, call, handed):
        usual = sys.getrecursionlimit()
        sys.setrecursionlimit(len(inspect.stack()) + deepest)
        try:
            return call(*handed)
        finally:
            sys.setrecursionlimit(usual)


if __name__ == "__main__":
    unittest.main()
