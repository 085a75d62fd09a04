"""Works that are right: judge answers 0."""

import unittest

from gluegrain.bench import judge
from helper import ACROSS, HandingChecks, apart, judge_lines, text_of

TABLE = [
    "part top 16 10 1 x",
    "cut 0 0 0 2 2 1",
    "cut 14 8 0 2 2 1",
    "part leg 2 2 7 z",
    "put top rb 10 10 7",
    "put leg rb 12 10 0",
    "put leg lf 24 18 0",
    "put leg ub 30 10 0",
]


class RightWorks(unittest.TestCase):
    def test_no_lines(self):
        self.assertEqual(judge([], []), [0])

    def test_parts_without_puts(self):
        self.assertEqual(judge_lines(["part a 1 1 1 x"]), [0])
        self.assertEqual(judge_lines(["part a 1 2 3 x", "part b 16 16 16 y", "cut 0 0 0 1 1 1"]), [0])

    def test_parts_cuts_and_puts(self):
        self.assertEqual(judge_lines(TABLE), [0])

    def test_each_grain(self):
        for grain in "xyz":
            self.assertEqual(judge_lines([f"part a 1 1 1 {grain}", "put a rb 0 0 0"]), [0])

    def test_each_pair_of_ways(self):
        self.assertEqual(len(ACROSS), 24)
        for ways in ACROSS:
            self.assertEqual(judge_lines(["part a 2 3 4 x", f"put a {ways} 5 6 7"]), [0], ways)

    def test_dry_pairs_either_way_round_or_twice(self):
        for dry in ([0, 1], [1, 0], [0, 1, 1, 0], [0, 1, 0, 1], [3, 0, 2, 1], [1, 3, 0, 2, 3, 1]):
            self.assertEqual(judge_lines(TABLE, dry), [0], dry)

    def test_cuts_that_cut_nothing_or_all(self):
        lines = ["part a 2 2 2 x", "cut 0 0 0 2 2 2", "cut 0 0 0 2 2 2", "cut 1 1 1 1 1 1"]
        self.assertEqual(judge_lines(lines + ["put a rb 0 0 0", "put a rb 0 0 0"]), [0])

    def test_one_part_put_often(self):
        self.assertEqual(judge_lines(["part a 1 1 1 x"] + apart(32)), [0])

    def test_a_part_called_like_a_line(self):
        self.assertEqual(judge_lines(["part put 1 1 1 x", "part cut 1 1 1 x", "part part 1 1 1 x",
                                      "put put rb 0 0 0", "put cut rb 1 0 0", "put part rb 2 0 0"]), [0])


class Handing(HandingChecks, unittest.TestCase):
    call = staticmethod(judge)
    names = ("text", "dry")
    handed = [
        (([], []), [0]),
        ((text_of(TABLE), [0, 1, 3, 2]), [0]),
        ((text_of(TABLE), [0]), [-1]),
        ((text_of(TABLE + ["put leg rb 13 11 0"]), [0, 1]), [-9, 1, 4]),
        ((text_of(TABLE + ["cut 0 0 0 1 1 1"]), []), [-6, 8, 3]),
        ((text_of(TABLE)[:-1], []), [-6, 7, 1]),
        (([10] * 65537, []), [-2]),
    ]


if __name__ == "__main__":
    unittest.main()
