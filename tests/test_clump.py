"""The clump of a put: all puts that it holds with, with a strength or more."""

import itertools
import random
import unittest

from gluegrain.bench import clump, holds
from helper import (FIRST_REFUSALS, LARGEST_NUMBER, THREE, HandingChecks, apart, cell_ring, cell_row, joint_table,
                    least_cuts, random_cells, random_dry, random_work, text_of)

TWO_SQUARES = (["part z 1 1 1 z", "part y 1 1 1 y"] + [f"put z rb {x} {y} 0" for x in (0, 1) for y in (0, 1)]
               + ["put y rb 0 2 0"] + [f"put z rb {x} {y} 0" for x in (0, 1) for y in (3, 4)])
ROW_OF_32 = ["part x 1 1 1 x", "part z 1 1 1 z"] + [f"put {'xz'[k // 20]} rb 0 {k} 0" for k in range(32)]


def clump_lines(s, i, lines, dry=()):
    return clump(s, i, text_of(lines), list(dry))


class ClumpCase(unittest.TestCase):
    def assert_clump(self, s, i, lines, members, dry=()):
        self.assertEqual(clump_lines(s, i, lines, dry), [len(members)] + members, (s, i, lines, dry))


class OrdinaryWorks(ClumpCase):
    def test_one_put(self):
        for s in (1, 6, 1000, LARGEST_NUMBER):
            self.assert_clump(s, 0, ["part a 1 1 1 x"] + apart(1), [0])
            self.assert_clump(s, 2, ["part a 1 1 1 x"] + apart(4), [2])

    def test_two_puts_at_below_and_above_their_strength(self):
        for grains, strength in [("xx", 6), ("zx", 4), ("xy", 1)]:
            lines = cell_row(grains)
            for i in (0, 1):
                for s in range(1, strength + 1):
                    self.assert_clump(s, i, lines, [0, 1])
                for s in (strength + 1, strength + 2, 1000, LARGEST_NUMBER):
                    self.assert_clump(s, i, lines, [i])
        self.assert_clump(1, 0, cell_row("yy"), [0])

    def test_large_faces(self):
        lines = ["part a 16 16 16 z", "put a rb 48 0 48", "put a rb 32 0 48"]
        self.assert_clump(1536, 0, lines, [0, 1])
        self.assert_clump(1537, 0, lines, [0])

    def test_rows(self):
        lines = cell_row("xxzyzzx")
        for i in range(7):
            self.assert_clump(1, i, lines, list(range(7)))
        for s in (2, 3, 4):
            for members in ([0, 1, 2], [3], [4, 5, 6]):
                for i in members:
                    self.assert_clump(s, i, lines, members)
        for s in (5, 6):
            for members in ([0, 1], [2], [3], [4, 5], [6]):
                for i in members:
                    self.assert_clump(s, i, lines, members)
        for i in range(7):
            self.assert_clump(7, i, lines, [i])

    def test_rings(self):
        lines = cell_ring("z" * 8)
        for i in range(8):
            self.assert_clump(12, i, lines, list(range(8)))
            self.assert_clump(13, i, lines, [i])
        lines = cell_ring("zzxzzzyz")
        for s, members in [(2, list(range(8))), (3, [0, 1, 7]), (7, [0, 1, 7]), (8, [0])]:
            self.assert_clump(s, 0, lines, members)

    def test_through_others_only(self):
        self.assert_clump(6, 0, THREE, [0, 1, 2])
        lines = ["part base 5 1 1 x", "part leg 1 1 1 x", "put leg rb 0 0 1", "put leg rb 4 0 1", "put base rb 0 0 0"]
        self.assert_clump(6, 0, lines, [0, 1, 2])
        self.assert_clump(6, 1, lines, [0, 1, 2])
        self.assert_clump(7, 1, lines, [1])

    def test_a_clump_may_hold_through_puts_that_are_not_in_it(self):
        """Two large puts that three small ones lie between: each of these holds less than the two do together."""
        lines = ["part post 1 1 3 z", "part pin 1 1 1 z", "put post rb 0 0 0", "put pin rb 1 0 0", "put pin rb 1 0 1",
                 "put pin rb 1 0 2", "put post rb 2 0 0"]
        self.assert_clump(18, 0, lines, [0, 4])
        self.assert_clump(18, 4, lines, [0, 4])
        self.assert_clump(13, 0, lines, [0, 4])
        self.assert_clump(12, 0, lines, [0, 1, 2, 3, 4])
        self.assert_clump(13, 2, lines, [2])
        self.assert_clump(19, 0, lines, [0])

    def test_more_than_one_joint_together(self):
        for i in range(9):
            self.assert_clump(1, i, TWO_SQUARES, list(range(9)))
            members = [0, 1, 2, 3] if i < 4 else [4] if i == 4 else [5, 6, 7, 8]
            self.assert_clump(2, i, TWO_SQUARES, members)
            self.assert_clump(12, i, TWO_SQUARES, members)

    def test_works_that_fall_apart(self):
        lines = cell_row("xxzyyzz")
        for i in range(7):
            self.assert_clump(1, i, lines, [0, 1, 2, 3] if i < 4 else [4, 5, 6])

    def test_works_of_32_puts(self):
        for i in (0, 19, 20, 31):
            self.assert_clump(1, i, ROW_OF_32, list(range(32)))
            self.assert_clump(4, i, ROW_OF_32, list(range(32)))
            members = list(range(20)) if i < 20 else list(range(20, 32))
            self.assert_clump(5, i, ROW_OF_32, members)
            self.assert_clump(6, i, ROW_OF_32, members)
            self.assert_clump(7, i, ROW_OF_32, [i])

    def test_32_blocks(self):
        lines = ["part a 16 16 16 z"]
        for at in itertools.product((0, 16), (0, 16, 32, 48), (0, 16, 32, 48)):
            lines.append(f"put a rb {at[2]} {at[1]} {at[0]}")
        self.assert_clump(2 * 1536, 31, lines, list(range(16, 32)))
        corners = (16, 19, 28, 31)
        edges = [k for k in range(16, 32) if k not in corners]
        self.assert_clump(2 * 1536 + 1, 31, lines, [31])
        self.assert_clump(2 * 1536 + 1, 21, lines, edges)
        self.assert_clump(3 * 1536 + 1, 21, lines, [21, 22, 25, 26])
        self.assert_clump(4 * 1536 + 1, 21, lines, [21])


class AgainstHolds(ClumpCase):
    def held_of(self, lines, dry, count):
        """How strong each two puts hold one another, pair by pair."""
        return {(i, j): holds(i, j, text_of(lines), dry)[0] for i, j in itertools.permutations(range(count), 2)}

    def check_work(self, lines, dry, count):
        held = self.held_of(lines, dry, count)
        strengths = {1, LARGEST_NUMBER} | {told + more for told in held.values() for more in (-1, 0, 1)}
        larger = None
        for s in sorted(strengths - {-1, 0}):
            clumps = [clump_lines(s, i, lines, dry) for i in range(count)]
            for i, told in enumerate(clumps):
                members = told[1:]
                self.assertEqual(told[0], len(members))
                self.assertEqual(members, [j for j in range(count) if j == i or held[i, j] >= s])
                for j in members:
                    self.assertEqual(clumps[j], told)
                if larger is not None:
                    self.assertLessEqual(set(members), set(larger[i]))
            larger = [told[1:] for told in clumps]

    def test_random_works(self):
        rng = random.Random(71)
        for k in range(25):
            count = rng.randint(2, 6)
            self.check_work(random_work(rng, count), random_dry(rng, count, k % 3), count)

    def test_cells_close_together(self):
        rng = random.Random(72)
        for k in range(15):
            self.check_work(random_cells(rng, 8, (2, 2, 2)), random_dry(rng, 8, k % 4), 8)

    def test_against_all_cuts(self):
        rng = random.Random(73)
        for k in range(20):
            lines = random_cells(rng, 6, (2, 3, 1))
            dry = random_dry(rng, 6, k % 2)
            table = joint_table(lines, dry)
            for i in range(6):
                held = [least_cuts(table, i, j)[0] if j != i else LARGEST_NUMBER for j in range(6)]
                for s in range(1, 20):
                    self.assert_clump(s, i, lines, [j for j in range(6) if held[j] >= s], dry)

    def test_a_random_work_of_32_puts(self):
        rng = random.Random(74)
        lines = random_cells(rng, 32, (4, 4, 2))
        dry = random_dry(rng, 32, 4)
        text = text_of(lines)
        for i in rng.sample(range(32), 3):
            held = [holds(i, j, text, dry)[0] if j != i else LARGEST_NUMBER for j in range(32)]
            for s in sorted(set(held)):
                self.assert_clump(s, i, lines, [j for j in range(32) if held[j] >= s], dry)


class DryPairs(ClumpCase):
    def test_either_way_round_or_twice(self):
        for dry in ([0, 1], [1, 0], [0, 1, 0, 1], [0, 1, 1, 0], [2, 0, 1, 0]):
            self.assert_clump(1, 0, THREE, [0], dry)
            self.assert_clump(1, 1, THREE, [1, 2], dry)
            self.assert_clump(6, 2, THREE, [1, 2], dry)

    def test_pairs_of_a_ring(self):
        lines = cell_ring("z" * 8)
        self.assert_clump(6, 0, lines, list(range(8)), [3, 4])
        self.assert_clump(7, 0, lines, [0], [3, 4])
        self.assert_clump(6, 0, lines, [0, 1, 2, 3], [3, 4, 0, 7])

    def test_all_told(self):
        every_pair = [number for pair in itertools.combinations(range(32), 2) for number in pair]
        self.assert_clump(1, 5, ROW_OF_32, [5], every_pair)


class Refusals(unittest.TestCase):
    def test_no_such_put(self):
        for i in (3, 4, 32, LARGEST_NUMBER):
            for s in (0, 1, LARGEST_NUMBER):
                self.assertEqual(clump_lines(s, i, THREE), [-4])
        self.assertEqual(clump_lines(1, 32, ROW_OF_32), [-4])

    def test_a_work_without_puts(self):
        for lines in ([], ["part a 1 1 1 x"]):
            for s, i in [(1, 0), (0, 0), (0, 1), (LARGEST_NUMBER, LARGEST_NUMBER)]:
                self.assertEqual(clump_lines(s, i, lines), [-4])

    def test_strength_0(self):
        for i in range(3):
            self.assertEqual(clump_lines(0, i, THREE), [-8])
        self.assertEqual(clump_lines(0, 0, ["part a 1 1 1 x"] + apart(1)), [-8])

    def test_what_every_call_refuses_first(self):
        for text, dry, answer in FIRST_REFUSALS:
            for s, i in [(1, 0), (0, 0), (0, 99), (1, 99), (LARGEST_NUMBER, LARGEST_NUMBER)]:
                self.assertEqual(clump(s, i, text, dry), answer)


class Handing(HandingChecks, unittest.TestCase):
    call = staticmethod(clump)
    names = ("s", "i", "text", "dry")
    handed = [
        ((6, 0, text_of(THREE), []), [3, 0, 1, 2]),
        ((7, 1, text_of(THREE), []), [1, 1]),
        ((1, 2, text_of(THREE), [1, 0]), [2, 1, 2]),
        ((LARGEST_NUMBER, 2, text_of(THREE), [1, 0, 0, 1]), [1, 2]),
        ((2, 8, text_of(TWO_SQUARES), []), [4, 5, 6, 7, 8]),
        ((0, 0, text_of(THREE), [0, 2]), [-8]),
        ((1, 3, text_of(THREE), [0, 2]), [-4]),
        ((0, LARGEST_NUMBER, text_of(THREE), [0, 2]), [-4]),
    ] + [((1, 0, text, dry), answer) for text, dry, answer in FIRST_REFUSALS]


if __name__ == "__main__":
    unittest.main()
