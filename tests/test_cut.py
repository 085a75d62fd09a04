"""The strength of a set of puts: the joints of each in it with each that isn't."""

import itertools
import random
import unittest

from gluegrain.bench import cut
from helper import (FIRST_REFUSALS, LARGEST_NUMBER, THREE, HandingChecks, apart, cell_ring, cell_row, joint_table,
                    random_dry, random_work, strength, text_of)

ROW_OF_32 = ["part x 1 1 1 x"] + [f"put x rb 0 {k} 0" for k in range(32)]


def cut_lines(lines, members, dry=()):
    return cut(text_of(lines), list(dry), list(members))


def subsets(count):
    for size in range(1, count + 1):
        yield from itertools.combinations(range(count), size)


class CutCase(unittest.TestCase):
    def assert_cut(self, lines, members, expected, dry=()):
        self.assertEqual(cut_lines(lines, members, dry), [expected], (lines, members, dry))


class Sets(CutCase):
    def test_one_put(self):
        lines = cell_row("xxzyz")
        for put, expected in enumerate([6, 6 + 4, 4 + 1, 1 + 1, 1]):
            self.assert_cut(lines, [put], expected)

    def test_several_puts(self):
        lines = cell_row("xxzyz")
        for members, expected in [([0, 1], 4), ([0, 2], 6 + 4 + 1), ([1, 3], 6 + 4 + 1 + 1), ([2, 3, 4], 4), ([0, 4], 7),
                                  ([1, 2, 3], 6 + 1), ([0, 1, 2, 3], 1), ([0, 2, 4], 12)]:
            self.assert_cut(lines, members, expected)

    def test_all_puts(self):
        for count in range(1, 9):
            self.assert_cut(cell_row("x" * count), list(range(count)), 0)
        self.assert_cut(["part a 1 1 1 x"] + apart(1), [0], 0)

    def test_a_ring(self):
        lines = cell_ring("z" * 8)
        self.assert_cut(lines, [0], 12)
        self.assert_cut(lines, [0, 7], 12)
        self.assert_cut(lines, [1, 2, 5], 24)
        self.assert_cut(lines, [0, 2, 4, 6], 48)

    def test_puts_that_touch_nothing(self):
        lines = ["part a 1 1 1 x"] + apart(5)
        for members in subsets(5):
            self.assert_cut(lines, members, 0)

    def test_large_faces(self):
        lines = ["part a 16 16 16 z", "put a rb 32 48 0", "put a rb 48 48 0", "put a rb 32 32 0"]
        self.assert_cut(lines, [0], 2 * 1536)
        self.assert_cut(lines, [1, 2], 2 * 1536)
        self.assert_cut(lines, [0, 1], 1536)

    def test_works_of_32_puts(self):
        self.assert_cut(ROW_OF_32, [31], 6)
        self.assert_cut(ROW_OF_32, list(range(31)), 6)
        self.assert_cut(ROW_OF_32, list(range(32)), 0)
        self.assert_cut(ROW_OF_32, list(range(0, 32, 2)), 31 * 6)
        self.assert_cut(ROW_OF_32, list(range(1, 32, 2)), 31 * 6)
        self.assert_cut(ROW_OF_32, list(range(8, 24)), 12)


class AgainstTheSlowWay(CutCase):
    def test_every_set_of_random_works(self):
        rng = random.Random(41)
        held = 0
        for k in range(25):
            count = rng.randint(1, 5)
            lines = random_work(rng, count)
            dry = random_dry(rng, count, rng.randint(0, 2)) if count > 1 else []
            table = joint_table(lines, dry)
            for members in subsets(count):
                self.assert_cut(lines, members, strength(table, members), dry)
                held += strength(table, members) > 0
        self.assertGreater(held, 100)

    def test_a_random_work_of_32_puts(self):
        rng = random.Random(42)
        lines = random_work(rng, 32)
        dry = random_dry(rng, 32, 40)
        table = joint_table(lines, dry)
        for k in range(60):
            members = sorted(rng.sample(range(32), rng.randint(1, 32)))
            others = [put for put in range(32) if put not in members]
            self.assert_cut(lines, members, strength(table, members), dry)
            if others != []:
                self.assert_cut(lines, others, strength(table, members), dry)


class DryPairs(CutCase):
    def test_across(self):
        for dry in ([1, 2], [2, 1], [1, 2, 1, 2], [1, 2, 2, 1], [0, 3, 2, 1]):
            self.assert_cut(cell_row("xxxx"), [0, 1], 0, dry)
            self.assert_cut(cell_row("xxxx"), [1], 6, dry)
            self.assert_cut(cell_row("xxxx"), [0, 2], 12, dry)

    def test_within_the_set_or_outside_of_it(self):
        for dry in ([0, 1], [1, 0], [2, 3], [3, 2, 0, 1], [0, 1, 1, 0]):
            self.assert_cut(cell_row("xxxx"), [0, 1], 6, dry)
            self.assert_cut(cell_row("xxxx"), [2, 3], 6, dry)

    def test_all_told(self):
        every_pair = [number for pair in itertools.combinations(range(32), 2) for number in pair]
        self.assert_cut(ROW_OF_32, [5], 0, every_pair)
        self.assert_cut(ROW_OF_32, list(range(32)), 0, every_pair)


class NoSets(unittest.TestCase):
    def assert_no_set(self, lines, members):
        self.assertEqual(cut_lines(lines, members), [-8], members)

    def test_the_empty_list(self):
        self.assert_no_set(THREE, [])
        self.assert_no_set(ROW_OF_32, [])

    def test_numbers_that_do_not_rise(self):
        for members in ([0, 0], [2, 2], [1, 0], [0, 2, 1], [2, 1, 0], [0, 1, 1], [0, 1, 1, 2], [0, 1, 2, 2], [1, 0, 2],
                        [0, 0, 2]):
            self.assert_no_set(THREE, members)

    def test_numbers_that_are_no_puts(self):
        for members in ([3], [0, 3], [0, 1, 2, 3], [LARGEST_NUMBER], [0, LARGEST_NUMBER], [3, 4], [3, 1], [0, 3, 2],
                        [LARGEST_NUMBER, 0], [0, 99, 1, 2]):
            self.assert_no_set(THREE, members)
        self.assert_no_set(ROW_OF_32, [32])
        self.assert_no_set(ROW_OF_32, [0, 31, 32])

    def test_puts_are_counted_not_parts(self):
        self.assert_no_set(["part a 1 1 1 x", "part b 1 1 1 x", "put a rb 0 0 0"], [1])

    def test_lists_longer_than_a_set_may_be(self):
        for count in (33, 34, 59, 60):
            self.assert_no_set(ROW_OF_32, list(range(count)))
            self.assert_no_set(ROW_OF_32, (list(range(32)) * 2)[:count])
            self.assert_no_set(ROW_OF_32, [31] * count)
            self.assert_no_set(ROW_OF_32, list(range(count, 0, -1)))
            self.assert_no_set(ROW_OF_32, list(range(32)) + [LARGEST_NUMBER] * (count - 32))

    def test_a_work_without_puts(self):
        for lines in ([], ["part a 1 1 1 x"]):
            for members in ([], [0], [0, 1], [1, 0], [LARGEST_NUMBER]):
                self.assert_no_set(lines, members)


class Order(unittest.TestCase):
    def test_what_every_call_refuses_first(self):
        for text, dry, answer in FIRST_REFUSALS:
            for members in ([0], [], [1, 0], [99], [LARGEST_NUMBER] * 60):
                self.assertEqual(cut(text, dry, members), answer)


class Handing(HandingChecks, unittest.TestCase):
    call = staticmethod(cut)
    names = ("text", "dry", "the_set")
    handed = [
        ((text_of(THREE), [], [0]), [6]),
        ((text_of(THREE), [0, 2], [1]), [12]),
        ((text_of(THREE), [1, 2], [0, 2]), [6]),
        ((text_of(THREE), [1, 2, 2, 1], [0, 1]), [0]),
        ((text_of(THREE), [0, 2], [0, 1, 2]), [0]),
        ((text_of(THREE), [0, 2], []), [-8]),
        ((text_of(THREE), [], [1, 0]), [-8]),
        ((text_of(THREE), [], list(range(60))), [-8]),
        ((text_of(THREE), [], [LARGEST_NUMBER]), [-8]),
    ] + [((text, dry, [1, 0]), answer) for text, dry, answer in FIRST_REFUSALS]


if __name__ == "__main__":
    unittest.main()
