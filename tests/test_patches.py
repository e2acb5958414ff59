"""Patches by themselves: some of what makes them up is not seen through can and line alone."""

import unittest

from helper import WINDMILL, Top, made_up_tops
from straightseamsdesk.tops import find_patches


def patches_of(words):
    top = Top(words)
    return [sorted(patch) for patch in find_patches(top.letters, top.wide)]


class Patches(unittest.TestCase):
    def test_numbered_as_they_come_first(self):
        self.assertEqual(patches_of("abca\n"), [[0, 3], [1], [2]])
        self.assertEqual(patches_of("a b\n"), [[0, 1, 2, 3], [4, 5, 6, 7]])

    def test_a_patch_that_goes_down_and_up_again(self):
        squares = [patch[0::4] for patch in patches_of("a b a\na a a\n")]
        self.assertEqual(squares, [[0, 8, 12, 16, 20], [4]])

    def test_a_patch_that_goes_down_and_left(self):
        squares = [patch[0::4] for patch in patches_of("b a\na a\n")]
        self.assertEqual(squares, [[0], [4, 8, 12]])

    def test_quarters_that_meet_in_a_point_are_apart(self):
        self.assertEqual(patches_of("abab\n"), [[0], [1], [2], [3]])

    def test_a_row_s_end_and_the_next_one_s_beginning_are_apart(self):
        self.assertEqual(len(patches_of("b a\na b\n")), 4)

    def test_windmill(self):
        self.assertEqual([len(patch) for patch in patches_of(WINDMILL)], [8, 8, 8, 4, 8])

    def test_reckoned_anew(self):
        for words in made_up_tops(200, 5):
            with self.subTest(words=words):
                numbered = Top(words).patches
                wanted = [[q for q, own in enumerate(numbered) if own == first] for first in dict.fromkeys(numbered)]
                self.assertEqual(patches_of(words), wanted)


if __name__ == "__main__":
    unittest.main()
