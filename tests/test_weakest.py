"""The weakest of a work: the least cut between any two puts, the first pair for which it's so, and where it parts."""

import itertools
import random
import unittest

from gluegrain.bench import holds, weakest
from helper import (FIRST_REFUSALS, THREE, HandingChecks, apart, cell_ring, cell_row, joint_table, least_cuts,
                    random_cells, random_dry, random_work, strength, text_of)


def weakest_lines(lines, dry=()):
    return weakest(text_of(lines), list(dry))


class WeakestCase(unittest.TestCase):
    def assert_weakest(self, lines, expected, pair, members, dry=()):
        self.assertEqual(weakest_lines(lines, dry), [expected] + pair + [len(members)] + members, (lines, dry))


class OrdinaryWorks(WeakestCase):
    def test_two_puts(self):
        for grains, expected in [("xx", 6), ("zx", 4), ("xy", 1), ("yy", 0)]:
            self.assert_weakest(cell_row(grains), expected, [0, 1], [0])
        self.assert_weakest(["part a 1 1 1 x"] + apart(2), 0, [0, 1], [0])
        self.assert_weakest(["part a 16 16 16 z", "put a rb 48 0 48", "put a rb 32 0 48"], 1536, [0, 1], [0])

    def test_rows(self):
        self.assert_weakest(cell_row("xxxx"), 6, [0, 1], [0])
        self.assert_weakest(cell_row("xzzz"), 4, [0, 1], [0])
        self.assert_weakest(cell_row("xxzz"), 4, [0, 2], [0, 1])
        self.assert_weakest(cell_row("xxzyxx"), 1, [0, 3], [0, 1, 2])
        self.assert_weakest(cell_row("xxxzy"), 1, [0, 4], [0, 1, 2, 3])

    def test_rows_out_of_order(self):
        parts = ["part x 1 1 1 x", "part y 1 1 1 y", "part z 1 1 1 z"]
        lines = parts + ["put x rb 0 2 0", "put x rb 0 3 0", "put z rb 0 1 0", "put z rb 0 0 0"]
        self.assert_weakest(lines, 4, [0, 2], [0, 1])
        lines = parts + ["put x rb 0 2 0", "put y rb 0 4 0", "put z rb 0 1 0", "put x rb 0 3 0"]
        self.assert_weakest(lines, 1, [0, 1], [0, 2, 3])

    def test_rings(self):
        self.assert_weakest(cell_ring("z" * 8), 12, [0, 1], [0])
        self.assert_weakest(cell_ring("zzxzzzyz"), 2, [0, 2], [0, 1, 7])
        self.assert_weakest(cell_ring("zzzzzyzz"), 8, [0, 5], [0, 1, 2, 3, 4, 6, 7])

    def test_the_first_pair_of_several(self):
        """Both ends hang on by 1: each pair with one of them is as weak, the first is told."""
        self.assert_weakest(cell_row("xxxyxx"), 1, [0, 3], [0, 1, 2])
        self.assert_weakest(cell_row("yxxxy"), 1, [0, 1], [0])
        lines = ["part z 1 1 1 z", "part y 1 1 1 y", "put z rb 1 1 0", "put z rb 1 0 0", "put z rb 0 1 0",
                 "put z rb 0 0 0", "put y rb 1 2 0", "put y rb 0 2 0"]
        self.assertEqual(joint_table(lines)[4][5], 6)
        self.assert_weakest(lines, 2, [0, 4], [0, 1, 2, 3])

    def test_the_cut_with_the_fewest_puts(self):
        self.assert_weakest(cell_row("xxyxyxx"), 1, [0, 2], [0, 1])
        self.assert_weakest(["part x 1 1 1 x", "put x rb 0 0 0", "put x rb 0 5 0", "put x rb 0 1 0", "put x rb 0 2 0",
                             "put x rb 0 3 0", "put x rb 0 4 0"], 6, [0, 1], [0])

    def test_a_pair_that_holds_more_than_the_weakest(self):
        lines = ["part z 1 1 1 z", "part y 1 1 1 y"]
        lines += [f"put z rb {x} {y} 0" for x in (0, 1) for y in (0, 1)] + ["put y rb 0 2 0"]
        lines += [f"put z rb {x} {y} 0" for x in (0, 1) for y in (3, 4)]
        self.assert_weakest(lines, 1, [0, 4], [0, 1, 2, 3])


class WorksThatFallApart(WeakestCase):
    def test_puts_that_touch_nothing(self):
        for count in range(2, 33):
            self.assert_weakest(["part a 1 1 1 x"] + apart(count), 0, [0, 1], [0])

    def test_all_that_hangs_together_with_the_first(self):
        self.assert_weakest(cell_row("xxzyyzz"), 0, [0, 4], [0, 1, 2, 3])
        self.assert_weakest(cell_row("xyyx"), 0, [0, 2], [0, 1])
        lines = ["part x 1 1 1 x", "put x rb 0 0 0", "put x rb 0 9 0", "put x rb 0 1 0", "put x rb 0 8 0", "put x rb 0 2 0"]
        self.assert_weakest(lines, 0, [0, 1], [0, 2, 4])

    def test_only_the_last_hangs_on_nothing(self):
        self.assert_weakest(cell_row("xxx") + ["put x rb 5 5 5"], 0, [0, 3], [0, 1, 2])

    def test_only_the_first_hangs_on_nothing(self):
        self.assert_weakest(["part x 1 1 1 x", "put x rb 9 9 9", "put x rb 0 0 0", "put x rb 0 1 0"], 0, [0, 1], [0])


class LargeWorks(WeakestCase):
    def test_rows_of_32(self):
        lines = ["part x 1 1 1 x", "part y 1 1 1 y", "part z 1 1 1 z"]
        self.assert_weakest(lines + [f"put x rb 0 {k} 0" for k in range(32)], 6, [0, 1], [0])
        grains = "x" * 20 + "z" * 12
        puts = [f"put {grain} rb 0 {k} 0" for k, grain in enumerate(grains)]
        self.assert_weakest(lines + puts, 4, [0, 20], list(range(20)))
        self.assert_weakest(lines + puts[:-1] + ["put y rb 0 31 0"], 1, [0, 31], list(range(31)))

    def test_32_blocks(self):
        places = list(itertools.product((0, 16), (0, 16, 32, 48), (0, 16, 32, 48)))
        lines = ["part y 16 16 16 y"] + [f"put y rb {at[0]} {at[1]} {at[2]}" for at in places]
        self.assert_weakest(lines, 0, [0, 4], [0, 1, 2, 3, 16, 17, 18, 19])
        lines = ["part x 16 16 16 x", "part z 16 16 16 z"]
        for z, x, y in places:
            lines.append(f"put {'x' if z == 16 else 'z'} rb {x} {y} {z}")
        self.assert_weakest(lines, 4 * 256, [0, 16], [put for put in range(32) if put not in (16, 17, 18, 19)])

    def test_random_works(self):
        rng = random.Random(51)
        self.check_random(random_work(rng, 32, 1), random_dry(rng, 32, 2))
        for k in range(6):
            self.check_random(random_cells(rng, 32, (4, 4, 2)), random_dry(rng, 32, k))

    def check_random(self, lines, dry):
        told = weakest_lines(lines, dry)
        text = text_of(lines)
        held = [holds(0, j, text, dry) for j in range(1, 32)]
        least = min([answer[0] for answer in held])
        second = [answer[0] for answer in held].index(least) + 1
        self.assertEqual(told, [least, 0, second] + held[second - 1][1:])
        self.assertEqual(strength(joint_table(lines, dry), told[4:]), told[0])


class AgainstAllCuts(WeakestCase):
    def assert_least(self, lines, dry=()):
        table = joint_table(lines, dry)
        found = {}
        for i, j in itertools.combinations(range(len(table)), 2):
            found[i, j] = least_cuts(table, i, j)
        least = min([told for told, cuts in found.values()])
        pair = min([pair for pair in found if found[pair][0] == least])
        cuts = found[pair][1]
        self.assert_weakest(lines, least, list(pair), cuts[0], dry)
        for members in cuts:
            self.assertLessEqual(set(cuts[0]), set(members))
        return least, pair[1], len(cuts)

    def test_random_works(self):
        rng = random.Random(61)
        seen = [self.assert_least(random_work(rng, rng.randint(2, 6))) for k in range(60)]
        self.assertGreater(len({second for least, second, count in seen}), 2)

    def test_random_works_with_dry_pairs(self):
        rng = random.Random(62)
        for k in range(30):
            count = rng.randint(2, 6)
            self.assert_least(random_work(rng, count), random_dry(rng, count, rng.randint(1, 3)))

    def test_ways_that_must_give_way_to_others(self):
        lines = [f"part {grain} 1 1 1 {grain}" for grain in "xyz"]
        for grain, at in zip("yxzyzyyz", ("0 0 0", "1 0 0", "0 1 1", "0 0 1", "1 0 1", "0 1 0", "1 1 1", "1 1 0")):
            lines.append(f"put {grain} rb {at}")
        self.assertEqual(self.assert_least(lines)[:2], (4, 1))

    def test_cells_close_together(self):
        rng = random.Random(63)
        seen = [self.assert_least(random_cells(rng, 7, (2, 2, 2)), random_dry(rng, 7, k % 3)) for k in range(60)]
        self.assertGreater(len({least for least, second, count in seen}), 3)
        self.assertGreater(len({second for least, second, count in seen}), 3)
        self.assertGreater(max([count for least, second, count in seen if least > 0]), 1)


class DryPairs(WeakestCase):
    def test_either_way_round_or_twice(self):
        for dry in ([2, 3], [3, 2], [2, 3, 2, 3], [2, 3, 3, 2], [0, 2, 3, 2]):
            self.assert_weakest(cell_row("xxxx"), 0, [0, 3], [0, 1, 2], dry)

    def test_pairs_of_a_ring(self):
        lines = cell_ring("z" * 8)
        self.assert_weakest(lines, 6, [0, 1], [0], [7, 0])
        self.assert_weakest(lines, 6, [0, 1], [0, 5, 6, 7], [4, 5])
        self.assert_weakest(lines, 0, [0, 2], [0, 1, 5, 6, 7], [4, 5, 2, 1])

    def test_pairs_that_do_not_touch(self):
        self.assert_weakest(THREE, 6, [0, 1], [0], [0, 2, 2, 0])

    def test_all_told(self):
        every_pair = [number for pair in itertools.combinations(range(8), 2) for number in pair]
        self.assert_weakest(cell_ring("z" * 8), 0, [0, 1], [0], every_pair)


class Refusals(unittest.TestCase):
    def test_less_than_two_puts(self):
        for lines in ([], ["part a 1 1 1 x"], ["part a 1 1 1 x", "part b 1 1 1 x"], ["part a 1 1 1 x"] + apart(1)):
            self.assertEqual(weakest_lines(lines), [-3])

    def test_what_every_call_refuses_first(self):
        for text, dry, answer in FIRST_REFUSALS:
            self.assertEqual(weakest(text, dry), answer)

    def test_wrong_pairs_before_less_than_two_puts(self):
        for lines in ([], ["part a 1 1 1 x"], ["part a 1 1 1 x"] + apart(1)):
            for dry in ([0], [0, 0], [0, 1], [5, 6, 7]):
                self.assertEqual(weakest_lines(lines, dry), [-1])

    def test_a_fault_or_too_much_before_less_than_two_puts(self):
        self.assertEqual(weakest_lines(["part a 1 1 1 x", "put a rb 0 0 0", "put b rb 0 0 0"]), [-6, 2, 4])
        self.assertEqual(weakest_lines(["part a 1 1 1 x", "put a rb 0 0 0"], [0, 1] * 497), [-2])


class Handing(HandingChecks, unittest.TestCase):
    call = staticmethod(weakest)
    names = ("text", "dry")
    handed = [
        ((text_of(THREE), []), [6, 0, 1, 1, 0]),
        ((text_of(THREE), [2, 1]), [0, 0, 2, 2, 0, 1]),
        ((text_of(cell_row("xxzyxx")), []), [1, 0, 3, 3, 0, 1, 2]),
        ((text_of(cell_ring("zzxzzzyz")), [0, 4]), [2, 0, 2, 3, 0, 1, 7]),
        (([], []), [-3]),
        ((text_of(["part a 1 1 1 x"] + apart(1)), []), [-3]),
    ] + [((text, dry), answer) for text, dry, answer in FIRST_REFUSALS]


if __name__ == "__main__":
    unittest.main()
