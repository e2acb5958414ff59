"""check, and B5: rows and plans are one to one."""

import unittest

from helper import EVERY_QUARTER, EVERY_SQUARE, WINDMILL, Top, days_of, made_up_tops, numbers, row_of, small_tops
from straightseamsdesk.tops import check, plan

MOST = 4294967295

# Each top beside a plan's row, how many seams it has and how many days.
PLANS = (
    ("a\n", [4, 0], 0, 0, "one patch"),
    ("a b\n", [0, 65, 4, 0, 4, 1], 1, 1, "two patches"),
    ("a\\b\n", [2, 64, 4, 1, 4, 0], 1, 1, "a falling seam"),
    ("a\na\\b\n", [2, 63, 4, 1, 4, 0], 1, 1, "a seam whose at is below 0"),
    ("a b c\n", [0, 65, 4, 0, 0, 66, 4, 1, 4, 2], 2, 2, "the first plan"),
    ("a b c\n", [0, 66, 0, 65, 4, 0, 4, 1, 4, 2], 2, 2, "another plan"),
    ("a b\nc d\n", [0, 65, 1, 65, 4, 0, 4, 2, 1, 65, 4, 1, 4, 3], 3, 2, "the first plan"),
    ("a b\nc d\n", [1, 65, 0, 65, 4, 0, 4, 1, 0, 65, 4, 2, 4, 3], 3, 2, "another plan"),
    ("abcd\n", [2, 64, 3, 65, 4, 3, 4, 2, 3, 65, 4, 0, 4, 1], 3, 2, "the first plan"),
    ("abcd\n", [3, 65, 2, 64, 4, 3, 4, 0, 2, 64, 4, 2, 4, 1], 3, 2, "another plan"),
    ("a b c d\n", [0, 65, 4, 0, 0, 66, 4, 1, 0, 67, 4, 2, 4, 3], 3, 3, "seams behind one another"),
    ("a b c d\n", [0, 66, 0, 65, 4, 0, 4, 1, 0, 67, 4, 2, 4, 3], 3, 2, "seams beside one another"),
    ("a b c d\n", [0, 67, 0, 66, 0, 65, 4, 0, 4, 1, 4, 2, 4, 3], 3, 3, "seams before one another"),
)

# Rows that are no plan of a top of two by two squares; one that is: 0 65 1 65 4 0 4 2 1 65 4 1 4 3.
NO_PLANS = (
    ([], "the empty row"),
    ([0], "a seam's direction alone"),
    ([4], "a patch without its number"),
    ([MOST], "one number"),
    ([4, 0], "a patch alone"),
    ([0, 65], "a seam alone"),
    ([0, 65, 1, 65, 4, 0, 4, 2, 1, 65, 4, 1, 4], "a number fewer"),
    ([0, 65, 1, 65, 4, 0, 4, 2, 1, 65, 4, 1], "a patch fewer"),
    ([0, 65, 1, 65, 4, 0, 4, 2, 1, 65, 4, 1, 4, 3, 4], "a number more"),
    ([0, 65, 1, 65, 4, 0, 4, 2, 1, 65, 4, 1, 4, 3, 4, 3], "a patch more"),
    ([0, 65, 1, 65, 4, 0, 4, 2, 1, 65, 4, 1, 4, 3, 0, 65], "a seam more"),
    ([0, 65, 1, 65, 4, 0, 4, 2, 1, 65, 4, 1, 4, 2], "a patch of the other side"),
    ([0, 65, 1, 65, 4, 0, 4, 2, 1, 65, 4, 1, 4, 4], "a patch that is not there"),
    ([0, 65, 1, 65, 4, 0, 4, 2, 1, 65, 4, 1, 4, MOST], "a patch that is not there"),
    ([0, 65, 4, 0, 4, 2], "a patch where there are two"),
    ([0, 65, 1, 65, 4, 2, 4, 0, 1, 65, 4, 1, 4, 3], "two sides the wrong way round"),
    ([0, 65, 1, 65, 4, 1, 4, 3, 1, 65, 4, 0, 4, 2], "the first seam's sides the wrong way round"),
    ([0, 64, 1, 65, 4, 0, 4, 2, 1, 65, 4, 1, 4, 3], "a line at the top's edge"),
    ([0, 66, 1, 65, 4, 0, 4, 2, 1, 65, 4, 1, 4, 3], "a line at the top's other edge"),
    ([0, 0, 1, 65, 4, 0, 4, 2, 1, 65, 4, 1, 4, 3], "the lowest at64"),
    ([0, MOST, 1, 65, 4, 0, 4, 2, 1, 65, 4, 1, 4, 3], "the highest at64"),
    ([0, 1, 1, 65, 4, 0, 4, 2, 1, 65, 4, 1, 4, 3], "an at that 64 was not put to"),
    ([2, 64, 1, 65, 4, 0, 4, 2, 1, 65, 4, 1, 4, 3], "a line that cuts patches"),
    ([3, 66, 1, 65, 4, 0, 4, 2, 1, 65, 4, 1, 4, 3], "a line that cuts patches"),
    ([0, 65, 0, 65, 4, 0, 4, 2, 1, 65, 4, 1, 4, 3], "a line that is no seam any more"),
    ([5, 65, 1, 65, 4, 0, 4, 2, 1, 65, 4, 1, 4, 3], "a direction of 5"),
    ([MOST, 65, 1, 65, 4, 0, 4, 2, 1, 65, 4, 1, 4, 3], "the highest direction"),
    ([4, 65, 1, 65, 4, 0, 4, 2, 1, 65, 4, 1, 4, 3], "4 in a seam's place"),
    ([0, 65, 1, 65, 5, 0, 4, 2, 1, 65, 4, 1, 4, 3], "5 in a patch's place"),
    ([0, 65, 1, 65, 4, 0, 4, 2, 1, 65, 4, 1, 0, 3], "0 in a patch's place"),
    ([0, 65] * 350, "700 numbers, the same seam each time"),
    ([0, 65, 1, 65] * 175, "700 numbers, seams alone"),
    ([0, 65, 1, 65] + [4, 0] * 348, "700 numbers, seams and then patches"),
    ([4, 0] * 350, "700 numbers 4 and 0 by turns"),
    ([0, 4] * 350, "700 numbers 0 and 4 by turns"),
    ([MOST] * 700, "700 numbers, all the highest"),
)


def halved(low, high, direction, tell):
    """The row of a plan that halves strips from low up to high, each strip's row as tell gives it."""
    if high - low == 1:
        return tell(low)
    middle = (low + high) // 2
    return [direction, middle + 64] + halved(low, middle, direction, tell) + halved(middle, high, direction, tell)


def quartered(x, y):
    """The rising seam first, then the falling ones."""
    first = 4 * (6 * y + x)
    falling = [2, x - y + 64]
    return [3, x + y + 1 + 64] + falling + [4, first + 3, 4, first] + falling + [4, first + 2, 4, first + 1]


class CheckPlans(unittest.TestCase):
    def test_plans(self):
        for words, row, seams, days, why in PLANS:
            with self.subTest(words=words, why=why):
                self.assertEqual(check(numbers(words), row), [0, 1, seams, days])

    def test_the_row_that_plan_answers(self):
        tried = 0
        for words in made_up_tops(200, 12) + [EVERY_SQUARE]:
            row = plan(numbers(words))[1:]
            if row:
                with self.subTest(words=words):
                    self.assertEqual(check(numbers(words), row)[:3], [0, 1, len(set(Top(words).patches)) - 1])
                tried += 1
        self.assertGreater(tried, 50)


class CheckSixBySix(unittest.TestCase):
    def test_the_first_plan(self):
        row = plan(numbers(EVERY_QUARTER))[1:]
        self.assertEqual(len(row), 574)
        self.assertEqual(check(numbers(EVERY_QUARTER), row), [0, 1, 143, 12])
        self.assertEqual(check(numbers(EVERY_SQUARE), plan(numbers(EVERY_SQUARE))[1:]), [0, 1, 35, 10])

    def test_a_plan_that_halves(self):
        row = halved(0, 6, 1, lambda y: halved(0, 6, 0, lambda x: quartered(x, y)))
        self.assertEqual(len(row), 574)
        self.assertEqual(check(numbers(EVERY_QUARTER), row), [0, 1, 143, 8])
        self.assertEqual(check(numbers(EVERY_SQUARE), row), [0, 0])

    def test_a_change_of_one_number(self):
        row = halved(0, 6, 1, lambda y: halved(0, 6, 0, lambda x: quartered(x, y)))
        for place in range(0, len(row), 7):
            for number in (row[place] + 1, MOST):
                changed = row[:place] + [number] + row[place + 1:]
                self.assertEqual(check(numbers(EVERY_QUARTER), changed), [0, 0])
        self.assertEqual(check(numbers(EVERY_QUARTER), row[:-2]), [0, 0])
        self.assertEqual(check(numbers(EVERY_QUARTER), (row + row)[:700]), [0, 0])


class CheckRowsThatAreNoPlan(unittest.TestCase):
    def test_no_plans_of_four_squares(self):
        text = numbers("a b\nc d\n")
        self.assertEqual(check(text, [0, 65, 1, 65, 4, 0, 4, 2, 1, 65, 4, 1, 4, 3]), [0, 1, 3, 2])
        for row, why in NO_PLANS:
            with self.subTest(row=row, why=why):
                self.assertEqual(check(text, row), [0, 0])

    def test_no_plans_of_one_patch(self):
        text = numbers("a a\n")
        for row in ([], [4], [0], [4, 1], [4, MOST], [0, 65], [4, 0, 4], [4, 0, 4, 0], [4, 0] * 350,
                    [0, 65, 4, 0, 4, 0], [3, 64], [5, 0], [MOST, 0]):
            with self.subTest(row=row):
                self.assertEqual(check(text, row), [0, 0])

    def test_a_top_that_cannot_be_sewn_has_no_plan(self):
        for row in ([], [4, 0], [0, 65, 4, 0, 4, 1], [4, 0, 4, 1, 4, 2, 4, 3, 4, 4], [0, 65] * 350):
            with self.subTest(row=row):
                self.assertEqual(check(numbers(WINDMILL), row), [0, 0])
                self.assertEqual(check(numbers("f a a b\nf d e b\nf d c c\n"), row), [0, 0])


class RowsAndPlansAreOneToOne(unittest.TestCase):
    def test_b5_each_plan_has_its_own_row_and_is_told_by_it(self):
        several = 0
        for words, top in small_tops(300, 13):
            plans = top.all_plans()
            rows = {tuple(row_of(told)) for told in plans}
            with self.subTest(words=words):
                self.assertEqual(len(rows), len(plans))
                for told in plans:
                    answer = check(numbers(words), row_of(told))
                    self.assertEqual(answer, [0, 1, len(set(top.patches)) - 1, days_of(told)])
            several += len(plans) > 1
        self.assertGreater(several, 30)

    def test_b5_rows_that_are_no_plan(self):
        tried = 0
        for words, top in small_tops(120, 14):
            plans = top.all_plans()
            rows = {tuple(row_of(told)) for told in plans}
            for told in sorted(plans)[:3]:
                for changed in self.changes(row_of(told)):
                    if (check(numbers(words), changed) != [0, 0]) != (tuple(changed) in rows):
                        self.fail(f"{words!r}: {changed} is answered {check(numbers(words), changed)}")
                    tried += 1
        self.assertGreater(tried, 1000)

    def changes(self, row):
        """Rows that are a plan's row but for a little."""
        for place in range(len(row)):
            yield row[:place]
            yield row[:place] + row[place + 1:]
            yield row[:place] + row[place + 2:]
            yield row[:place] + row[place:place + 2] + row[place:]
            for number in (0, 1, 2, 3, 4, 5, 62, 63, 64, 65, 66, 67, MOST):
                yield row[:place] + [number] + row[place + 1:]
                yield row[:place] + [number] + row[place:]


if __name__ == "__main__":
    unittest.main()
