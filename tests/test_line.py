import unittest

from helper import FIRST_AT, LAST_AT, WINDMILL, Top, made_up_tops, numbers
from straightseamsdesk.tops import line

MOST = 4294967295


class LineOrdinary(unittest.TestCase):
    def parting(self, words):
        """Each line that parts, as direction and at."""
        text = numbers(words)
        found = []
        for direction in range(4):
            for at in range(FIRST_AT, LAST_AT + 1):
                answer = line(direction, at + 64, text)
                self.assertIn(answer, ([0, 0], [0, 1]))
                if answer == [0, 1]:
                    found.append((direction, at))
        return found

    def test_no_line_parts_one_patch(self):
        self.assertEqual(self.parting("a\n"), [])
        self.assertEqual(self.parting("a a a a a a\n" * 6), [])

    def test_rising_half(self):
        self.assertEqual(self.parting("a/b\n"), [(3, 1)])

    def test_falling_half(self):
        self.assertEqual(self.parting("a\\b\n"), [(2, 0)])

    def test_four_quarters(self):
        self.assertEqual(self.parting("abcd\n"), [(2, 0), (3, 1)])

    def test_upright(self):
        self.assertEqual(self.parting("a b b c\n"), [(0, 1), (0, 3)])

    def test_level(self):
        self.assertEqual(self.parting("a\na\nb\nc\n"), [(1, 2), (1, 3)])

    def test_four_squares(self):
        self.assertEqual(self.parting("a b\nc d\n"), [(0, 1), (1, 1)])

    def test_falling_below_nought(self):
        self.assertEqual(self.parting("a\na\\b\n"), [(2, -1)])
        column = "a\n" * 5 + "a\\b\n"
        self.assertEqual(self.parting(column), [(2, -5)])
        self.assertEqual(line(2, 59, numbers(column)), [0, 1])
        self.assertEqual(line(2, 69, numbers(column)), [0, 0])

    def test_falling_above_nought(self):
        self.assertEqual(self.parting("b b b b b a\\b\n"), [(2, 5)])

    def test_rising_up_to_the_last_corner(self):
        self.assertEqual(self.parting("a a a a a a\n" * 5 + "a a a a a a/b\n"), [(3, 11)])
        self.assertEqual(self.parting("b/a a a a a a\n" + "a a a a a a\n" * 5), [(3, 1)])

    def test_line_that_cuts_a_patch(self):
        text = numbers("a/b b/c\n")
        self.assertEqual(line(0, 65, text), [0, 0])
        self.assertEqual(self.parting("a/b b/c\n"), [(3, 1), (3, 2)])

    def test_windmill_is_parted_by_no_line(self):
        self.assertEqual(self.parting(WINDMILL), [])

    def test_top_that_cannot_be_sewn_may_be_parted(self):
        self.assertEqual(self.parting("f a a b\nf d e b\nf d c c\n"), [(0, 1)])

    def test_one_letter_in_patches_apart(self):
        self.assertEqual(self.parting("a b a\n"), [(0, 1), (0, 2)])
        self.assertEqual(self.parting("a b\nb a\n"), [(0, 1), (1, 1)])
        self.assertEqual(self.parting("b a\na b\n"), [(0, 1), (1, 1)])
        self.assertEqual(self.parting("abab\n"), [(2, 0), (3, 1)])

    def test_reckoned_anew(self):
        for words in made_up_tops(120, 2):
            with self.subTest(words=words):
                top = Top(words)
                wanted = [(direction, at) for direction, at, _ in top.partings(top.quarters())]
                self.assertEqual(self.parting(words), wanted)


class LineEdges(unittest.TestCase):
    def test_all_on_one_side(self):
        text = numbers("a b\nc d\n")
        for direction in range(4):
            for at64 in (0, 1, 58, 61, 62, 68, 69, 128, MOST - 1, MOST):
                with self.subTest(direction=direction, at64=at64):
                    self.assertEqual(line(direction, at64, text), [0, 0])

    def test_at_the_top_s_edges(self):
        text = numbers("a b\nc d\n")
        self.assertEqual([line(0, at64, text)[1] for at64 in (64, 65, 66)], [0, 1, 0])
        self.assertEqual([line(1, at64, text)[1] for at64 in (64, 65, 66)], [0, 1, 0])

    def test_last_direction(self):
        self.assertEqual(line(3, 65, numbers("a/b\n")), [0, 1])

    def test_directions_above_3(self):
        for direction in (4, 5, 7, 64, MOST):
            for at64 in (0, 64, 65, MOST):
                with self.subTest(direction=direction, at64=at64):
                    self.assertEqual(line(direction, at64, numbers("a b\nc d\n")), [-1])


if __name__ == "__main__":
    unittest.main()
