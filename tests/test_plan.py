"""plan, and B2: the first plan; a plan has a seam fewer than patches."""

import unittest

from helper import EVERY_QUARTER, EVERY_SQUARE, WINDMILL, Top, made_up_tops, numbers, row_of, small_tops
from straightseamsdesk.tops import can, plan

FIRST_PLANS = (
    ("a\n", [4, 0], "one patch"),
    ("a a a a a a\n" * 6, [4, 0], "one patch of 6 by 6 squares"),
    ("a/a\n", [4, 0], "one patch of two halves"),
    ("a b\n", [0, 65, 4, 0, 4, 1], "an upright seam"),
    ("a\nb\n", [1, 65, 4, 0, 4, 1], "a level seam"),
    ("a\\b\n", [2, 64, 4, 1, 4, 0], "a falling seam: the upper half lies behind it"),
    ("a/b\n", [3, 65, 4, 0, 4, 1], "a rising seam"),
    ("a\na\\b\n", [2, 63, 4, 1, 4, 0], "a falling seam below 0"),
    ("a\n" * 5 + "a\\b\n", [2, 59, 4, 1, 4, 0], "the lowest falling seam"),
    ("b b b b b a\\b\n", [2, 69, 4, 0, 4, 1], "the highest falling seam"),
    ("a a a a a a\n" * 5 + "a a a a a a/b\n", [3, 75, 4, 0, 4, 1], "the highest rising seam"),
    ("a b c\n", [0, 65, 4, 0, 0, 66, 4, 1, 4, 2], "the lower at first"),
    ("a b\nc d\n", [0, 65, 1, 65, 4, 0, 4, 2, 1, 65, 4, 1, 4, 3], "upright ahead of level"),
    ("a a\nb c\n", [1, 65, 4, 0, 0, 65, 4, 1, 4, 2], "level where upright cuts a patch"),
    ("abcd\n", [2, 64, 3, 65, 4, 3, 4, 2, 3, 65, 4, 0, 4, 1], "falling ahead of rising"),
    ("a/b c\n", [0, 65, 3, 65, 4, 0, 4, 1, 4, 2], "upright ahead of rising"),
    ("a\\b\nc\\d\n", [1, 65, 2, 64, 4, 1, 4, 0, 2, 63, 4, 3, 4, 2], "falling seams of two ats"),
    ("a b a\n", [0, 65, 4, 0, 0, 66, 4, 1, 4, 2], "one letter in two patches"),
)

CANNOT_BE_SEWN = (
    WINDMILL,
    "aaab\n",
    "a a\na b\n",
    "a a a\na b a\na a a\n",
    "f a a b\nf d e b\nf d c c\n",
    "a a b f\nd e b f\nd c c f\n",
    "a a b f\nd e b f\nd c c f\ng h i j\n",
)


def lengths(row):
    """How many seams and how many patches a row tells."""
    patches = row[0::2].count(4)
    return len(row) // 2 - patches, patches


class PlanOrdinary(unittest.TestCase):
    def test_first_plans(self):
        for words, row, why in FIRST_PLANS:
            with self.subTest(words=words, why=why):
                self.assertEqual(plan(numbers(words)), [0] + row)

    def test_one_patch_is_a_row_of_two_numbers(self):
        self.assertEqual(plan(numbers("Z\n")), [0, 4, 0])

    def test_cannot_be_sewn(self):
        for words in CANNOT_BE_SEWN:
            with self.subTest(words=words):
                self.assertEqual(plan(numbers(words)), [-5])


class PlanSixBySix(unittest.TestCase):
    def halved(self, low, high):
        """Columns from low on, parted one by one; each column square by square."""
        row = []
        for x in range(low, high):
            if x + 1 < high:
                row.extend([0, x + 1 + 64])
            for y in range(6):
                if y < 5:
                    row.extend([1, y + 1 + 64])
                row.extend(self.square(x, y))
        return row

    def square(self, x, y):
        return [4, 6 * y + x]

    def test_a_patch_in_every_square(self):
        self.assertEqual(plan(numbers(EVERY_SQUARE)), [0] + self.halved(0, 6))

    def test_a_patch_in_every_quarter(self):
        def quarters(x, y):
            first = 4 * (6 * y + x)
            falling = x - y + 64
            rising = x + y + 1 + 64
            before = [3, rising, 4, first + 3, 4, first + 2]
            behind = [3, rising, 4, first, 4, first + 1]
            return [2, falling] + before + behind

        self.square = quarters
        answer = plan(numbers(EVERY_QUARTER))
        self.assertEqual(answer, [0] + self.halved(0, 6))
        self.assertEqual(lengths(answer[1:]), (143, 144))
        self.assertEqual(len(answer), 575)


class SeamFewerThanPatches(unittest.TestCase):
    def test_b2_each_patch_once_and_a_seam_fewer(self):
        tried = 0
        for words in [words for words, _, _ in FIRST_PLANS] + [EVERY_SQUARE, EVERY_QUARTER] + made_up_tops(300, 6):
            answer = plan(numbers(words))
            if answer == [-5]:
                continue
            with self.subTest(words=words):
                row = answer[1:]
                count = len(set(Top(words).patches))
                told = [number for place, number in enumerate(row) if place % 2 == 1 and row[place - 1] == 4]
                self.assertEqual(sorted(told), list(range(count)))
                self.assertEqual(lengths(row), (count - 1, count))
            tried += 1
        self.assertGreater(tried, 100)


class PlanReckonedAnew(unittest.TestCase):
    def test_b2_the_first_of_all_plans(self):
        several = 0
        for words, top in small_tops(400, 7):
            plans = top.all_plans()
            with self.subTest(words=words):
                self.assertEqual(plan(numbers(words)), [0] + row_of(min(plans)) if plans else [-5])
            several += len(plans) > 1
        self.assertGreater(several, 40)

    def test_every_square_of_four_letters(self):
        for second in "ab":
            for third in "abc":
                for fourth in "abcd":
                    words = "a" + second + third + fourth + "\n"
                    plans = Top(words).all_plans()
                    with self.subTest(words=words):
                        self.assertEqual(plan(numbers(words)), [0] + row_of(min(plans)) if plans else [-5])

    def test_planned_just_if_it_can_be_sewn(self):
        for words in made_up_tops(200, 8):
            with self.subTest(words=words):
                self.assertEqual(plan(numbers(words)) != [-5], can(numbers(words)) == [0, 1])


if __name__ == "__main__":
    unittest.main()
