import unittest

from helper import (
    EVERY_QUARTER,
    EVERY_SQUARE,
    WINDMILL,
    Top,
    days_of,
    made_up_tops,
    numbers,
    row_of,
    sewn_tops,
    small_tops,
)
from straightseamsdesk.tops import check, dayplan, days, plan

IT_IS_THE_FIRST_PLAN = (
    ("a\n", [4, 0], "one patch"),
    ("a a a a a a\n" * 6, [4, 0], "one patch of 6 by 6 squares"),
    ("a b\n", [0, 65, 4, 0, 4, 1], "an upright seam"),
    ("a\nb\n", [1, 65, 4, 0, 4, 1], "a level seam"),
    ("a\\b\n", [2, 64, 4, 1, 4, 0], "a falling seam"),
    ("a/b\n", [3, 65, 4, 0, 4, 1], "a rising seam"),
    ("a\na\\b\n", [2, 63, 4, 1, 4, 0], "an at below 0"),
    ("a b c\n", [0, 65, 4, 0, 0, 66, 4, 1, 4, 2], "three in a row"),
    ("a b\nc d\n", [0, 65, 1, 65, 4, 0, 4, 2, 1, 65, 4, 1, 4, 3], "four squares"),
    ("abcd\n", [2, 64, 3, 65, 4, 3, 4, 2, 3, 65, 4, 0, 4, 1], "four quarters"),
)

IT_IS_NOT_THE_FIRST_PLAN = (
    ("a b c d\n", [0, 66, 0, 65, 4, 0, 4, 1, 0, 67, 4, 2, 4, 3], "four in a row"),
    ("a\nb\nc\nd\n", [1, 66, 1, 65, 4, 0, 4, 1, 1, 67, 4, 2, 4, 3], "four in a column"),
    ("a/b b/c c/d\n", [3, 66, 3, 65, 4, 0, 4, 1, 3, 67, 4, 2, 4, 3], "rising seams alone"),
    ("a b c d e f\n", [0, 66, 0, 65, 4, 0, 4, 1, 0, 68, 0, 67, 4, 2, 4, 3, 0, 69, 4, 4, 4, 5], "six in a row"),
)

# A side of four in a row has three days here: its first plan takes all of them, though two would do.
CHAIN_OF_FOUR = (
    ("a b c d\ne e e e\nf g g g\nf h h h\n",
     [1, 65] + [0, 65, 4, 0, 0, 66, 4, 1, 0, 67, 4, 2, 4, 3] + [1, 66, 4, 4, 0, 65, 4, 5, 1, 67, 4, 6, 4, 7],
     "days to spare before a seam"),
    ("e e e a\nf g g b\nf h h c\nf h h d\n",
     [0, 67] + [1, 65, 4, 0, 0, 65, 4, 2, 1, 66, 4, 3, 4, 5] + [1, 65, 4, 1, 1, 66, 4, 4, 1, 67, 4, 6, 4, 7],
     "days to spare behind a seam"),
)


def has_days_to_spare(top, quarters, told):
    """Whether some side in a plan takes more days than that side's fewest."""
    if told[0] == 4:
        return False
    for side, plan_of_side in zip(top.sides(quarters, told[0], told[1]), told[2:]):
        fewest = min(days_of(other) for other in top.plans(side))
        if days_of(plan_of_side) > fewest or has_days_to_spare(top, side, plan_of_side):
            return True
    return False


class DayplanOrdinary(unittest.TestCase):
    def test_it_is_the_first_plan(self):
        for words, row, why in IT_IS_THE_FIRST_PLAN:
            with self.subTest(words=words, why=why):
                self.assertEqual(dayplan(numbers(words)), [0] + row)
                self.assertEqual(plan(numbers(words)), [0] + row)

    def test_it_is_not_the_first_plan(self):
        for words, row, why in IT_IS_NOT_THE_FIRST_PLAN:
            with self.subTest(words=words, why=why):
                self.assertEqual(dayplan(numbers(words)), [0] + row)
                self.assertNotEqual(plan(numbers(words)), [0] + row)

    def test_days_to_spare(self):
        for words, row, why in CHAIN_OF_FOUR:
            with self.subTest(words=words, why=why):
                self.assertEqual(days(numbers(words)), [0, 4])
                self.assertEqual(dayplan(numbers(words)), [0] + row)

    def test_ten_patches(self):
        text = numbers("a b c d e\nf g h i j\n")
        answer = dayplan(text)
        self.assertEqual(check(text, answer[1:]), [0, 1, 9, 4])


class DayplanRefused(unittest.TestCase):
    def test_more_than_ten_patches(self):
        for words in ("a b c d e f\ng h i j k k\n", "a b c d e f\ng h i j k l\n", EVERY_SQUARE, EVERY_QUARTER):
            with self.subTest(words=words):
                self.assertEqual(dayplan(numbers(words)), [-8])

    def test_cannot_be_sewn(self):
        for words in (WINDMILL, "aaab\n", "a a b f\nd e b f\nd c c f\n", "a a b f g h\nd e b i j j\nd c c j j j\n"):
            with self.subTest(words=words):
                self.assertLessEqual(len(set(Top(words).patches)), 10)
                self.assertEqual(dayplan(numbers(words)), [-5])

    def test_more_than_ten_patches_that_cannot_be_sewn(self):
        for words in ("a a b f g h\nd e b i j k\nd c c j j j\n", "aaab c d e f g\nhhhi j k l m n\n"):
            with self.subTest(words=words):
                self.assertGreater(len(set(Top(words).patches)), 10)
                self.assertEqual(plan(numbers(words)), [-5])
                self.assertEqual(dayplan(numbers(words)), [-8])


class DayplanReckonedAnew(unittest.TestCase):
    def test_the_first_of_the_plans_of_the_fewest_days(self):
        others = 0
        spared = 0
        for words, top in small_tops(300, 19) + sewn_tops(200, 20):
            plans = top.all_plans()
            if not plans:
                self.assertEqual(dayplan(numbers(words)), [-5])
                continue
            fewest = min(days_of(told) for told in plans)
            wanted = min(told for told in plans if days_of(told) == fewest)
            with self.subTest(words=words):
                self.assertEqual(dayplan(numbers(words)), [0] + row_of(wanted))
            others += wanted != min(plans)
            spared += has_days_to_spare(top, top.quarters(), wanted)
        self.assertGreater(others, 30)
        self.assertGreater(spared, 3)

    def test_it_is_refused_just_as_days_is(self):
        for words in made_up_tops(200, 21):
            with self.subTest(words=words):
                told = days(numbers(words))
                answer = dayplan(numbers(words))
                self.assertEqual(answer[0], told[0])
                self.assertEqual(answer == told, told[0] < 0)


if __name__ == "__main__":
    unittest.main()
