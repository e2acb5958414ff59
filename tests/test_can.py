import unittest

from helper import WINDMILL, Top, made_up_tops, numbers
from straightseamsdesk.tops import can

# Each top beside why it can or can't be sewn.
CAN_BE_SEWN = (
    ("a\n", "one patch"),
    ("Z\n", "a capital letter"),
    ("z\n", "the last small letter"),
    ("A\n", "the first capital letter"),
    ("a/b\n", "a rising seam"),
    ("a\\b\n", "a falling seam"),
    ("a/a\n", "both halves of one letter are one patch"),
    ("a\\a\n", "both halves of one letter are one patch"),
    ("aaaa\n", "four quarters of one letter are one patch"),
    ("abcd\n", "four quarters"),
    ("abba\n", "a/b by four letters"),
    ("aabb\n", "a\\b by four letters"),
    ("abab\n", "quarters that meet in a point alone are four patches"),
    ("A\\a\n", "small and capital letters differ"),
    ("a b c d e f\n", "one row"),
    ("a b a b a b\n", "one row of two letters"),
    ("a\nb\nc\nd\ne\nf\n", "one column"),
    ("a/b b/c c/d\n", "rising seams alone"),
    ("a\\b\nb\\c\n", "one letter, patches apart"),
    ("a b a\n", "one letter in two patches"),
    ("a b\nb a\n", "squares that meet in a corner alone"),
    ("b a\na b\n", "a row's end and the next row's beginning do not meet"),
    ("a a b\nd e b\nd c b\n", "a windmill with one arm let go"),
    ("a b c\nd e f\ng h i\n", "nine squares"),
)

CANNOT_BE_SEWN = (
    ("aaab\n", "a quarter in a notch"),
    ("baaa\n", "a quarter in a notch"),
    ("abaa\n", "a quarter in a notch"),
    ("aaba\n", "a quarter in a notch"),
    ("A aaaA\n", "a capital letter in a small one's notch"),
    ("a a\na b\n", "a square in a corner"),
    ("a a a\na b a\na a a\n", "a square in a ring"),
    (WINDMILL, "a windmill"),
    ("b a a\nb e d\nc c d\n", "a windmill turned the other way"),
    ("a a a\na b b\na b a\n", "one letter in two patches, both in notches"),
    ("f a a b\nf d e b\nf d c c\n", "a windmill behind a seam"),
    ("a a b f\nd e b f\nd c c f\n", "a windmill before a seam"),
)


class CanOrdinary(unittest.TestCase):
    def test_can_be_sewn(self):
        for words, why in CAN_BE_SEWN:
            with self.subTest(words=words, why=why):
                self.assertEqual(can(numbers(words)), [0, 1])

    def test_cannot_be_sewn(self):
        for words, why in CANNOT_BE_SEWN:
            with self.subTest(words=words, why=why):
                self.assertEqual(can(numbers(words)), [0, 0])

    def test_small_and_capital_letters_are_two(self):
        self.assertEqual(can(numbers("aaaa\n")), [0, 1])
        self.assertEqual(can(numbers("aaaA\n")), [0, 0])


class CanSixBySix(unittest.TestCase):
    def test_one_patch(self):
        self.assertEqual(can(numbers("a a a a a a\n" * 6)), [0, 1])

    def test_every_quarter_its_own_patch(self):
        text = numbers("abcd abcd abcd abcd abcd abcd\n" * 6)
        self.assertEqual(len(text), 180)
        self.assertEqual(can(text), [0, 1])

    def test_chequered(self):
        self.assertEqual(can(numbers("a b a b a b\nb a b a b a\n" * 3)), [0, 1])

    def test_halves_along_one_way_of_diagonals(self):
        self.assertEqual(can(numbers("a/b a/b a/b a/b a/b a/b\n" * 6)), [0, 1])

    def test_ring_in_a_ring(self):
        rows = ("a a a a a a", "a b b b b a", "a b a a b a", "a b a a b a", "a b b b b a", "a a a a a a")
        self.assertEqual(can(numbers("\n".join(rows) + "\n")), [0, 0])

    def test_windmill_in_the_last_corner(self):
        rows = ("f f f f f f", "f f f f f f", "g g g g g g", "h i j a a b", "h i j d e b", "h i j d c c")
        self.assertEqual(can(numbers("\n".join(rows) + "\n")), [0, 0])

    def test_windmill_of_the_whole(self):
        rows = ("a a a a b b", "a a a a b b", "d d e e b b", "d d e e b b", "d d c c c c", "d d c c c c")
        self.assertEqual(can(numbers("\n".join(rows) + "\n")), [0, 0])


class CanReckonedAnew(unittest.TestCase):
    def test_every_square_of_four_letters(self):
        for first in "ab":
            for second in "abc":
                for third in "abcd":
                    for fourth in "abcd":
                        self.compare(first + second + third + fourth + "\n")

    def test_made_up_tops(self):
        answers = [self.compare(words) for words in made_up_tops(400, 1)]
        self.assertGreater(answers.count(True), 50)
        self.assertGreater(answers.count(False), 50)

    def compare(self, words):
        top = Top(words)
        sewn = top.is_sewn(top.quarters())
        with self.subTest(words=words):
            self.assertEqual(can(numbers(words)), [0, int(sewn)])
        return sewn


if __name__ == "__main__":
    unittest.main()
