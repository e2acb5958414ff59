import unittest

from helper import WINDMILL, is_block, numbers
from straightseamsdesk.tops import can, check, dayplan, days, line, lock, plan

MOST = 4294967295


def answers(text):
    """What each call answers to a text; a line and rows that are good, and rows that are not."""
    checked = [check(text, row) for row in ([], [4, 0], [0, 65, 4, 0, 4, 1], [MOST] * 700)]
    return [can(text), line(0, 65, text), plan(text), lock(text), days(text), dayplan(text)] + checked


AT_FAULT = (
    ("", "no bytes"),
    ("a", "no byte 10 at the end"),
    ("a b\nc d", "no byte 10 at the last row's end"),
    ("a b\nc ", "no square and no byte 10 at the end"),
    ("a b c d e f g\n", "a seventh square"),
    ("a b c d e f\n" * 5 + "a b c d e f g\n", "a seventh square in the last row"),
    ("a\n" * 7, "a seventh row"),
    ("a\n" * 6 + "b", "the beginning of a seventh row"),
    ("a b\nc\n", "a row shorter than the first"),
    ("a b\nc d e\n", "a row longer than the first"),
    ("a\nb c\n", "a row longer than a first row of one square"),
    ("a  b\n", "two blanks"),
    (" a\n", "a blank at a row's beginning"),
    ("a \n", "a blank at a row's end"),
    ("a b\n c\n", "a blank at the second row's beginning"),
    (" \n", "a blank alone"),
    ("\n", "an empty row alone"),
    ("\na\n", "an empty first row"),
    ("a\n\n", "an empty last row"),
    ("a\n\nb\n", "an empty row between"),
    ("ab\n", "two letters"),
    ("abc\n", "three letters"),
    ("abcde\n", "five letters"),
    ("abcdefgh\n", "eight letters"),
    ("a/\n", "/ without a second letter"),
    ("a\\\n", "\\ without a second letter"),
    ("/b\n", "/ without a first letter"),
    ("\\b\n", "\\ without a first letter"),
    ("/\n", "/ alone"),
    ("\\\n", "\\ alone"),
    ("a//\n", "/ twice"),
    ("a/b/c\n", "three letters with / between"),
    ("ab/c\n", "two letters ahead of /"),
    ("a/bc\n", "two letters behind /"),
    ("a-b\n", "another sign between"),
    ("a/ b\n", "a blank behind /"),
    ("1\n", "a digit"),
    ("@\n", "the byte ahead of A"),
    ("[\n", "the byte behind Z"),
    ("`\n", "the byte ahead of a"),
    ("{\n", "the byte behind z"),
    ("abc1\n", "a digit among four"),
    ("a\r\n", "byte 13"),
    ("a\tb\n", "byte 9"),
    ("a\n\x00", "byte 0 behind a good text"),
    ("a\n ", "a blank behind a good text"),
    ("\xff\n", "byte 255"),
    ("a/\xe9\n", "a byte above 127 that may stand for a letter elsewhere"),
)


class AtFault(unittest.TestCase):
    def test_texts_at_fault(self):
        for words, why in AT_FAULT:
            with self.subTest(words=words, why=why):
                for answer in answers(numbers(words)):
                    self.assertEqual(answer, [-6])

    def test_each_byte_by_itself(self):
        letters = numbers("ABCDEFGHIJKLMNOPQRSTUVWXYZabcdefghijklmnopqrstuvwxyz")
        for byte in range(256):
            with self.subTest(byte=byte):
                self.assertEqual(can([byte, 10]), [0, 1] if byte in letters else [-6])

    def test_texts_that_are_good(self):
        for words in ("a b c d e f\n", "a\n" * 6, "a b c d e f\n" * 6, "a/b c\\d\nefgh i\n"):
            with self.subTest(words=words):
                self.assertEqual(can(numbers(words)), [0, 1])

    def test_each_change_of_one_byte(self):
        for words in ("a/b cdef\ng h\\i\n", "a b c d e f\n", "a\nb\nc\nd\ne\nf\n"):
            text = numbers(words)
            for place in range(len(text) + 1):
                self.judge(text[:place])
                self.judge(text[:place] + text[place + 1:])
                for byte in range(256):
                    self.judge(text[:place] + [byte] + text[place + 1:])
                    self.judge(text[:place] + [byte] + text[place:])

    def judge(self, text):
        wanted = 0 if is_block(text) else -6
        if can(text)[0] != wanted or line(0, 65, text)[0] != wanted:
            self.fail(f"{text} is answered {can(text)}, {line(0, 65, text)}, not {wanted}")


class TooLong(unittest.TestCase):
    def texts_of(self, length):
        return ([97] * length, [10] * length, [32] * length, [255] * length, numbers("a\n" * length)[:length],
                (numbers("a\n") + [0] * length)[:length])

    def test_1024_bytes_are_not_too_long(self):
        for text in self.texts_of(1024):
            for answer in answers(text):
                self.assertEqual(answer, [-6])

    def test_more_bytes_are_too_long_though_at_fault_too(self):
        for length in (1025, 1026, 1100):
            for text in self.texts_of(length):
                for answer in answers(text):
                    self.assertEqual(answer, [-2])


class FirstRefusalCounts(unittest.TestCase):
    def test_too_long_ahead_of_the_direction(self):
        self.assertEqual(line(4, 64, [97] * 1025), [-2])
        self.assertEqual(line(MOST, MOST, [10] * 1100), [-2])

    def test_at_fault_ahead_of_the_direction(self):
        self.assertEqual(line(4, 64, []), [-6])
        self.assertEqual(line(MOST, 0, numbers("ab\n")), [-6])
        self.assertEqual(line(4, 64, [97] * 1024), [-6])

    def test_the_direction_with_a_good_text(self):
        self.assertEqual(line(4, 64, numbers("a b\n")), [-1])
        self.assertEqual(line(MOST, 0, numbers(WINDMILL)), [-1])


if __name__ == "__main__":
    unittest.main()
