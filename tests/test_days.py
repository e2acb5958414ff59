"""days, and B4: the fewest days."""

import unittest

from helper import EVERY_QUARTER, EVERY_SQUARE, WINDMILL, Top, days_of, made_up_tops, numbers, sewn_tops, small_tops
from straightseamsdesk.tops import check, days, plan

FEWEST = (
    ("a\n", 0, "one patch"),
    ("a a a a a a\n" * 6, 0, "one patch of 6 by 6 squares"),
    ("a b\n", 1, "two patches"),
    ("a\nb\n", 1, "two patches"),
    ("a\\b\n", 1, "two patches"),
    ("a/b\n", 1, "two patches"),
    ("a b c\n", 2, "three in a row"),
    ("a b c d\n", 2, "four in a row: two pairs"),
    ("a b c d e\n", 3, "five in a row"),
    ("a b c d e f\n", 3, "six in a row"),
    ("a b\nc d\n", 2, "four squares"),
    ("abcd\n", 2, "four quarters"),
    ("a b c d\ne f g h\n", 3, "eight squares"),
    ("a b c\nd e f\ng h i\n", 4, "nine squares"),
    ("a b c d e\nf g h i j\n", 4, "ten squares"),
    ("a a a\nb c c\nb d e\n", 4, "five patches, each seam within the one before"),
    ("abcd abcd a/b\n", 4, "ten patches of quarters and halves"),
)

# Tops beside the days of their first plan and the fewest.
FIRST_PLAN_TAKES_MORE = (
    ("a b c d\n", 3, 2),
    ("a b c d e f\n", 5, 3),
    ("a\nb\nc\nd\n", 3, 2),
    ("a/b b/c c/d\n", 3, 2),
    ("a b c d e\nf g h i j\n", 5, 4),
)

CANNOT_BE_SEWN = (
    (WINDMILL, "a windmill"),
    ("aaab\n", "two patches"),
    ("a a b f\nd e b f\nd c c f\n", "a windmill before a seam"),
    ("a a b f g h\nd e b i j j\nd c c j j j\n", "ten patches"),
)

MORE_THAN_TEN = (
    ("a b c d e f\ng h i j k k\n", "eleven patches that can be sewn"),
    ("a b c d e f\ng h i j k l\n", "twelve patches that can be sewn"),
    (EVERY_SQUARE, "36 patches"),
    (EVERY_QUARTER, "144 patches"),
    ("a a b f g h\nd e b i j k\nd c c j j j\n", "eleven patches that can't be sewn"),
    ("aaab c d e f g\nhhhi j k l m n\n", "more than ten patches that can't be sewn"),
)


class DaysOrdinary(unittest.TestCase):
    def test_fewest_days(self):
        for words, fewest, why in FEWEST:
            with self.subTest(words=words, why=why):
                self.assertEqual(days(numbers(words)), [0, fewest])

    def test_the_first_plan_takes_more(self):
        for words, first, fewest in FIRST_PLAN_TAKES_MORE:
            with self.subTest(words=words):
                row = plan(numbers(words))[1:]
                self.assertEqual(check(numbers(words), row)[3], first)
                self.assertEqual(days(numbers(words)), [0, fewest])


class DaysRefused(unittest.TestCase):
    def test_ten_patches_are_not_too_many(self):
        words = "a b c d e f\ng h i j j j\n"
        self.assertEqual(len(set(Top(words).patches)), 10)
        self.assertEqual(days(numbers(words))[0], 0)

    def test_cannot_be_sewn(self):
        for words, why in CANNOT_BE_SEWN:
            with self.subTest(words=words, why=why):
                self.assertLessEqual(len(set(Top(words).patches)), 10)
                self.assertEqual(plan(numbers(words)), [-5])
                self.assertEqual(days(numbers(words)), [-5])

    def test_more_than_ten_patches(self):
        for words, why in MORE_THAN_TEN:
            with self.subTest(words=words, why=why):
                self.assertGreater(len(set(Top(words).patches)), 10)
                self.assertEqual(days(numbers(words)), [-8])

    def test_too_many_patches_ahead_of_what_cannot_be_sewn(self):
        words = "a a b f g h\nd e b i j k\nd c c j j j\n"
        self.assertEqual(len(set(Top(words).patches)), 11)
        self.assertEqual(plan(numbers(words)), [-5])
        self.assertEqual(days(numbers(words)), [-8])


class DaysReckonedAnew(unittest.TestCase):
    def test_b4_the_fewest_of_all_plans(self):
        spared = 0
        for words, top in small_tops(400, 15) + sewn_tops(60, 18):
            plans = top.all_plans()
            with self.subTest(words=words):
                fewest = min([days_of(told) for told in plans], default=None)
                self.assertEqual(days(numbers(words)), [-5] if fewest is None else [0, fewest])
            spared += fewest is not None and days_of(min(plans)) > fewest
        self.assertGreater(spared, 20)

    def test_no_more_than_the_first_plan_takes_and_enough_for_the_patches(self):
        for words in made_up_tops(200, 16):
            answer = days(numbers(words))
            if answer[0] == 0:
                row = plan(numbers(words))[1:]
                with self.subTest(words=words):
                    self.assertLessEqual(answer[1], check(numbers(words), row)[3])
                    self.assertLessEqual(len(set(Top(words).patches)), 2 ** answer[1])

    def test_refused_just_by_patches_and_by_what_cannot_be_sewn(self):
        answered = {}
        for words in made_up_tops(300, 17):
            many = len(set(Top(words).patches)) > 10
            first = -8 if many else min(0, plan(numbers(words))[0])
            with self.subTest(words=words):
                self.assertEqual(days(numbers(words))[0], first)
            answered[first] = True
        self.assertEqual(sorted(answered), [-8, -5, 0])


if __name__ == "__main__":
    unittest.main()
