"""The refusals -2 and -1, and the order in which all are looked at."""

import itertools
import unittest

from gluegrain.bench import judge
from helper import FIRST_REFUSALS, apart, judge_lines, text_of

THREE = ["part a 1 1 1 x"] + apart(3)
OVERLAPPING = ["part a 1 1 1 x", "put a rb 0 0 0", "put a rb 0 0 0"]
MOST_BYTES = 65536


def padded(length):
    """A text of that length whose fault is a cut far beyond its block."""
    head = text_of(["part a 1 1 1 x"]) + list(b"cut ")
    tail = list(b" 0 0 1 1 1\n")
    return head + [49] * (length - len(head) - len(tail)) + tail


class TooLarge(unittest.TestCase):
    def test_bytes(self):
        self.assertEqual(len(padded(MOST_BYTES)), MOST_BYTES)
        self.assertEqual(judge(padded(MOST_BYTES), []), [-6, 1, 4])
        self.assertEqual(judge(padded(MOST_BYTES + 1), []), [-2])
        self.assertEqual(judge([255] * 65600, []), [-2])

    def test_numbers_in_the_pairs(self):
        every_pair = [number for pair in itertools.combinations(range(32), 2) for number in pair]
        self.assertEqual(len(every_pair), 992)
        lines = ["part a 1 1 1 x"] + apart(32)
        self.assertEqual(judge_lines(lines, every_pair), [0])
        self.assertEqual(judge_lines(lines, every_pair + [0]), [-2])
        self.assertEqual(judge_lines(lines, every_pair + [0, 1]), [-2])
        self.assertEqual(judge_lines(lines, [0, 1] * 500), [-2])


class WrongPairs(unittest.TestCase):
    def test_an_odd_number_of_numbers(self):
        for dry in ([0], [0, 1, 2], [0, 1] * 495 + [0]):
            self.assertEqual(judge_lines(THREE, dry), [-1], dry)

    def test_a_pair_of_no_puts(self):
        for dry in ([0, 3], [3, 0], [3, 4], [0, 4294967295], [4294967295, 4294967295], [0, 1, 1, 3], [0, 1, 3, 1, 1, 2]):
            self.assertEqual(judge_lines(THREE, dry), [-1], dry)

    def test_the_last_put(self):
        self.assertEqual(judge_lines(THREE, [0, 2, 2, 1]), [0])

    def test_a_pair_of_one_put(self):
        for dry in ([0, 0], [2, 2], [0, 1, 1, 1], [0, 1, 2, 2, 1, 2]):
            self.assertEqual(judge_lines(THREE, dry), [-1], dry)

    def test_works_without_puts(self):
        for lines in ([], ["part a 1 1 1 x"]):
            self.assertEqual(judge_lines(lines, [0, 1]), [-1])
            self.assertEqual(judge_lines(lines, [0]), [-1])
            self.assertEqual(judge_lines(lines, []), [0])

    def test_puts_are_counted_not_parts(self):
        lines = ["part a 1 1 1 x", "part b 1 1 1 x", "part c 1 1 1 x", "put a rb 0 0 0", "put b rb 1 0 0"]
        self.assertEqual(judge_lines(lines, [0, 1]), [0])
        self.assertEqual(judge_lines(lines, [0, 2]), [-1])


class Order(unittest.TestCase):
    def test_what_every_call_refuses_first(self):
        for text, dry, answer in FIRST_REFUSALS:
            self.assertEqual(judge(text, dry), answer)

    def test_too_large_before_all(self):
        long_dry = [7] * 993
        self.assertEqual(judge_lines([""], long_dry), [-2])
        self.assertEqual(judge_lines(OVERLAPPING, long_dry), [-2])
        self.assertEqual(judge_lines(THREE, long_dry), [-2])
        self.assertEqual(judge([10] * (MOST_BYTES + 1), [7]), [-2])

    def test_fault_before_overlap_and_pairs(self):
        self.assertEqual(judge_lines(OVERLAPPING + ["put b rb 0 0 0"]), [-6, 3, 4])
        self.assertEqual(judge_lines(OVERLAPPING + [""], [0]), [-6, 3, 1])
        self.assertEqual(judge_lines(["put a rb 0 0 0"], [5, 5]), [-6, 0, 3])
        self.assertEqual(judge(text_of(OVERLAPPING)[:-1], [9] * 992), [-6, 2, 1])

    def test_overlap_before_pairs(self):
        for dry in ([0], [1, 1], [0, 2], [9] * 992):
            self.assertEqual(judge_lines(OVERLAPPING, dry), [-9, 0, 1], dry)

    def test_a_dry_pair_may_still_not_overlap(self):
        self.assertEqual(judge_lines(OVERLAPPING, [0, 1]), [-9, 0, 1])


if __name__ == "__main__":
    unittest.main()
