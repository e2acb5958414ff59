"""lock, and B3: what locks is parted by no line; it's whole patches."""

import unittest

from helper import EVERY_QUARTER, EVERY_SQUARE, WINDMILL, Top, made_up_tops, numbers
from straightseamsdesk.tops import can, lock

# Each top beside the patches that lock.
LOCKED = (
    (WINDMILL, [0, 1, 2, 3, 4], "a windmill"),
    ("b a a\nb e d\nc c d\n", [0, 1, 2, 3, 4], "a windmill turned the other way"),
    ("aaab\n", [0, 1], "a quarter in a notch"),
    ("a a\na b\n", [0, 1], "a square in a corner"),
    ("a a a\na b a\na a a\n", [0, 1], "a square in a ring"),
    ("a a b f\nd e b f\nd c c f\n", [0, 1, 3, 4, 5], "before an upright seam"),
    ("a a b\nd e b\nd c c\nf f f\n", [0, 1, 2, 3, 4], "before a level seam"),
    ("f f f\na a b\nd e b\nd c c\n", [1, 2, 3, 4, 5], "behind a level seam"),
    ("f a a b g\nf d e b g\nf d c c g\n", [1, 2, 4, 5, 6], "behind a seam, before another"),
    ("f f f f g\nh a a b g\nh d e b g\nh d c c g\n", [3, 4, 5, 6, 7], "before, behind, behind"),
    ("i f f f f g\ni h a a b g\ni h d e b g\ni h d c c g\n", [4, 5, 6, 7, 8], "behind, before, behind, behind"),
    ("aaab c\n", [0, 1], "before an upright seam"),
    ("c aaab\n", [1, 2], "behind an upright seam"),
    ("aaab cccd\n", [0, 1], "two that lock: what's before is come to first"),
    ("aaab\ncccd\n", [0, 1], "two that lock: what's before is come to first"),
    ("e cccd\naaab f\n", [3, 4], "two that lock: what's before is come to first, though numbered later"),
)

CAN_BE_SEWN = ("a\n", "a/a\n", "a a a a a a\n" * 6, "a b\n", "a/b\n", "a\\b\n", "abcd\n", "a a b\nd e b\nd c b\n",
               EVERY_SQUARE, EVERY_QUARTER)


class LockOrdinary(unittest.TestCase):
    def test_what_locks(self):
        for words, patches, why in LOCKED:
            with self.subTest(words=words, why=why):
                self.assertEqual(lock(numbers(words)), [0] + patches)

    def test_can_be_sewn(self):
        for words in CAN_BE_SEWN:
            with self.subTest(words=words):
                self.assertEqual(lock(numbers(words)), [-5])

    def test_two_windmills_side_by_side(self):
        rows = ("a a b A A B", "d e b D E B", "d c c D C C")
        self.assertEqual(lock(numbers("\n".join(rows) + "\n")), [0, 0, 1, 4, 5, 8])

    def test_two_windmills_one_above_the_other(self):
        rows = ("a a b", "d e b", "d c c", "A A B", "D E B", "D C C")
        self.assertEqual(lock(numbers("\n".join(rows) + "\n")), [0, 0, 1, 2, 3, 4])

    def test_two_windmills_the_first_one_come_to_is_numbered_later(self):
        # The upright seam is taken first: what's to the left of it is come to first, though it lies lower.
        rows = ("f f f A A B", "f f f D E B", "f f f D C C", "a a b g g g", "d e b g g g", "d c c g g g")
        self.assertEqual(lock(numbers("\n".join(rows) + "\n")), [0, 6, 7, 9, 10, 11])

    def test_windmill_of_the_whole_six_by_six(self):
        rows = ("a a a a b b", "a a a a b b", "d d e e b b", "d d e e b b", "d d c c c c", "d d c c c c")
        self.assertEqual(lock(numbers("\n".join(rows) + "\n")), [0, 0, 1, 2, 3, 4])


class LockReckonedAnew(unittest.TestCase):
    def test_b3_what_locks_is_whole_patches_parted_by_no_line(self):
        tried = 0
        for words in made_up_tops(400, 9) + [words for words, _, _ in LOCKED]:
            answer = lock(numbers(words))
            if answer == [-5]:
                continue
            with self.subTest(words=words):
                patches = answer[1:]
                top = Top(words)
                locked = frozenset(q for q in top.quarters() if top.patch_numbers([q])[0] in patches)
                self.assertGreater(len(patches), 1)
                self.assertEqual(patches, sorted(set(patches)))
                self.assertEqual(top.patch_numbers(locked), patches)
                self.assertEqual(top.partings(locked), [])
            tried += 1
        self.assertGreater(tried, 100)

    def test_the_one_that_is_come_to_first(self):
        parted = 0
        for words in made_up_tops(400, 10):
            top = Top(words)
            locked = top.locking(top.quarters())
            with self.subTest(words=words):
                self.assertEqual(lock(numbers(words)), [0] + top.patch_numbers(locked) if locked else [-5])
            parted += locked is not None and locked != top.quarters()
        self.assertGreater(parted, 20)

    def test_locks_just_if_it_cannot_be_sewn(self):
        for words in made_up_tops(200, 11):
            with self.subTest(words=words):
                self.assertEqual(lock(numbers(words)) == [-5], can(numbers(words)) == [0, 1])


if __name__ == "__main__":
    unittest.main()
