"""B1: whatever line parts what can be sewn, both sides can be."""

import unittest

from helper import FIRST_AT, LAST_AT, Top, made_up_tops, numbers
from straightseamsdesk.tops import can, line

TOPS = (
    "abcd\n",
    "a b c\nd e f\ng h i\n",
    "a/b c\\d\ne f\n",
    "abcd efgh\nijkl mnop\n",
    "a a b\nd e b\nd c b\n",
    "a/b b/c c/d\nb/c c/d d/e\nc/d d/e e/f\n",
    "a b a b a b\nb a b a b a\n" * 3,
    "abcd abcd abcd abcd abcd abcd\n" * 6,
)


class NoLineIsWrong(unittest.TestCase):
    def lines_that_part(self, words):
        return [
            (direction, at)
            for direction in range(4)
            for at in range(FIRST_AT, LAST_AT + 1)
            if line(direction, at + 64, numbers(words)) == [0, 1]
        ]

    def sides_alone(self, words, direction, at):
        """Two tops: each has one side as it is, all of the other side as a single patch.

        A side of a line hangs together, so the line parts such a top too, and the top can be sewn just
        if the side that is left as it is can be.
        """
        top = Top(words)
        before = {q for q in top.quarters() if top.is_before(q, direction, at)}
        return top.words(top.quarters() - before, "Z"), top.words(before, "Z")

    def both_sides(self, words, direction, at):
        answers = []
        for side in self.sides_alone(words, direction, at):
            self.assertEqual(line(direction, at + 64, numbers(side)), [0, 1])
            answers.append(can(numbers(side)))
        return answers

    def test_both_sides_of_what_can_be_sewn(self):
        made_up = [words for words in made_up_tops(200, 3) if can(numbers(words)) == [0, 1]]
        tried = 0
        for words in TOPS + tuple(made_up):
            self.assertEqual(can(numbers(words)), [0, 1])
            for direction, at in self.lines_that_part(words):
                with self.subTest(words=words, direction=direction, at=at):
                    self.assertEqual(self.both_sides(words, direction, at), [[0, 1], [0, 1]])
                tried += 1
        self.assertGreater(tried, 100)

    def test_a_side_of_what_cannot_be_sewn(self):
        stuck = [words for words in made_up_tops(200, 4) if can(numbers(words)) == [0, 0]]
        tried = 0
        for words in stuck:
            for direction, at in self.lines_that_part(words):
                with self.subTest(words=words, direction=direction, at=at):
                    self.assertIn([0, 0], self.both_sides(words, direction, at))
                tried += 1
        self.assertGreater(tried, 20)


if __name__ == "__main__":
    unittest.main()
