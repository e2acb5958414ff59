"""B1 to B5 over the whole program, each by a test of its own; and what the calls say of one another."""

import unittest

from helper import (
    EVERY_QUARTER,
    EVERY_SQUARE,
    FIRST_AT,
    LAST_AT,
    WINDMILL,
    Top,
    days_of,
    made_up_tops,
    numbers,
    row_of,
    sewn_tops,
    small_tops,
)
from straightseamsdesk.tops import can, check, dayplan, days, line, lock, plan


class Promises(unittest.TestCase):
    def test_b1_whatever_line_parts_what_can_be_sewn_begins_a_plan(self):
        tried = 0
        for words, top in sewn_tops(60, 31):
            text = numbers(words)
            self.assertEqual(can(text), [0, 1])
            for direction in range(4):
                for at in range(FIRST_AT, LAST_AT + 1):
                    rows = [row_of(told) for told in top.all_plans() if told[:2] == (direction, at)]
                    with self.subTest(words=words, direction=direction, at=at):
                        self.assertEqual(line(direction, at + 64, text), [0, int(len(rows) > 0)])
                        self.assertEqual([check(text, row)[1] for row in rows], [1] * len(rows))
                    tried += len(rows) > 0
        self.assertGreater(tried, 100)

    def test_b2_the_first_plan_and_a_seam_fewer_than_patches(self):
        for words, top in sewn_tops(60, 32):
            plans = top.all_plans()
            with self.subTest(words=words):
                self.assertEqual(plan(numbers(words)), [0] + row_of(min(plans)))
                for told in plans:
                    self.assertEqual(check(numbers(words), row_of(told))[:3], [0, 1, len(set(top.patches)) - 1])

    def test_b3_what_locks_is_whole_patches_parted_by_no_line(self):
        tried = 0
        for words in made_up_tops(300, 33) + [WINDMILL]:
            answer = lock(numbers(words))
            if answer != [-5]:
                top = Top(words)
                locked = frozenset(q for q in top.quarters() if top.patch_numbers([q])[0] in answer[1:])
                with self.subTest(words=words):
                    self.assertGreater(len(answer), 2)
                    self.assertEqual([0] + top.patch_numbers(locked), answer)
                    self.assertEqual(top.partings(locked), [])
                tried += 1
        self.assertGreater(tried, 50)

    def test_b4_the_fewest_days(self):
        for words, top in sewn_tops(80, 34):
            fewest = min(days_of(told) for told in top.all_plans())
            with self.subTest(words=words):
                self.assertEqual(days(numbers(words)), [0, fewest])
                self.assertEqual(check(numbers(words), dayplan(numbers(words))[1:])[3], fewest)

    def test_b5_rows_and_plans_are_one_to_one(self):
        for words, top in sewn_tops(60, 35):
            plans = top.all_plans()
            rows = {tuple(row_of(told)) for told in plans}
            with self.subTest(words=words):
                self.assertEqual(len(rows), len(plans))
                for row in sorted(rows):
                    self.assertEqual(check(numbers(words), list(row))[:2], [0, 1])
                    for turned in self.with_two_pairs_turned(row):
                        told = check(numbers(words), turned)
                        self.assertEqual(told != [0, 0], tuple(turned) in rows)

    def with_two_pairs_turned(self, row):
        for place in range(0, len(row) - 3, 2):
            yield list(row[:place] + row[place + 2:place + 4] + row[place:place + 2] + row[place + 4:])


class CallsOfOneAnother(unittest.TestCase):
    def tops(self):
        made_up = [words for words, _ in small_tops(200, 36) + sewn_tops(60, 37)]
        return made_up + [EVERY_SQUARE, EVERY_QUARTER, WINDMILL, "a\n", "a b\n", "a b c d e\nf g h i j\n"]

    def test_the_row_that_plan_answers_is_a_plan_by_check(self):
        for words in self.tops():
            answer = plan(numbers(words))
            if answer[0] == 0:
                with self.subTest(words=words):
                    self.assertEqual(check(numbers(words), answer[1:])[:2], [0, 1])

    def test_the_row_that_dayplan_answers_is_a_plan_by_check_with_the_days_that_days_answers(self):
        tried = 0
        for words in self.tops():
            answer = dayplan(numbers(words))
            if answer[0] == 0:
                with self.subTest(words=words):
                    told = check(numbers(words), answer[1:])
                    self.assertEqual(told[:2], [0, 1])
                    self.assertEqual([0, told[3]], days(numbers(words)))
                tried += 1
        self.assertGreater(tried, 80)

    def test_can_plan_and_lock_agree(self):
        for words in self.tops():
            text = numbers(words)
            with self.subTest(words=words):
                self.assertEqual(plan(text)[0], 0 if can(text) == [0, 1] else -5)
                self.assertEqual(lock(text)[0], -5 if can(text) == [0, 1] else 0)


if __name__ == "__main__":
    unittest.main()
