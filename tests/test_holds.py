"""How strong two puts hold one another, and where it would part first."""

import itertools
import random
import unittest

from gluegrain.bench import holds
from helper import (FIRST_REFUSALS, LARGEST_NUMBER, THREE, HandingChecks, apart, cell_ring, cell_row, joint_table,
                    least_cuts, random_cells, random_dry, random_work, strength, text_of)


def holds_lines(i, j, lines, dry=()):
    return holds(i, j, text_of(lines), list(dry))


class HoldsCase(unittest.TestCase):
    def assert_holds(self, i, j, lines, expected, members, dry=()):
        self.assertEqual(holds_lines(i, j, lines, dry), [expected, len(members)] + members, (i, j, lines))


class TwoPuts(HoldsCase):
    def test_puts_that_touch(self):
        for grains, expected in [("xx", 6), ("zx", 4), ("xy", 1), ("yy", 0), ("zz", 6), ("zy", 1)]:
            self.assert_holds(0, 1, cell_row(grains), expected, [0])
            self.assert_holds(1, 0, cell_row(grains), expected, [1])

    def test_puts_that_do_not_touch(self):
        lines = ["part a 1 1 1 x"] + apart(2)
        self.assert_holds(0, 1, lines, 0, [0])
        self.assert_holds(1, 0, lines, 0, [1])

    def test_large_faces(self):
        lines = ["part a 16 16 16 z", "put a rb 48 0 48", "put a rb 32 0 48"]
        self.assert_holds(0, 1, lines, 1536, [0])


class Rows(HoldsCase):
    def test_the_weakest_joint_between_tells(self):
        lines = cell_row("xxzyzzx")
        self.assert_holds(0, 1, lines, 6, [0])
        self.assert_holds(0, 2, lines, 4, [0, 1])
        self.assert_holds(0, 6, lines, 1, [0, 1, 2])
        self.assert_holds(6, 0, lines, 1, [4, 5, 6])
        self.assert_holds(3, 0, lines, 1, [3, 4, 5, 6])
        self.assert_holds(3, 6, lines, 1, [0, 1, 2, 3])
        self.assert_holds(5, 6, lines, 4, [0, 1, 2, 3, 4, 5])
        self.assert_holds(4, 6, lines, 4, [0, 1, 2, 3, 4, 5])
        self.assert_holds(6, 4, lines, 4, [6])

    def test_several_cuts_of_the_least_strength(self):
        lines = cell_row("xxxx")
        self.assert_holds(0, 3, lines, 6, [0])
        self.assert_holds(3, 0, lines, 6, [3])
        self.assert_holds(1, 3, lines, 6, [0, 1])
        self.assert_holds(2, 0, lines, 6, [2, 3])
        lines = cell_row("xxyxyxx")
        self.assert_holds(0, 6, lines, 1, [0, 1])
        self.assert_holds(6, 0, lines, 1, [5, 6])
        self.assert_holds(3, 6, lines, 1, [0, 1, 2, 3])

    def test_puts_out_of_order(self):
        lines = ["part x 1 1 1 x", "part z 1 1 1 z", "put x rb 0 3 0", "put z rb 0 0 0", "put x rb 0 2 0", "put z rb 0 1 0"]
        self.assert_holds(0, 1, lines, 4, [0, 2])
        self.assert_holds(1, 0, lines, 4, [1, 3])
        self.assert_holds(2, 0, lines, 6, [1, 2, 3])


class Rings(HoldsCase):
    def test_two_ways_at_once(self):
        lines = cell_ring("z" * 8)
        for i, j in itertools.permutations(range(8), 2):
            self.assert_holds(i, j, lines, 12, [i])

    def test_both_ways_have_their_weakest_joint(self):
        lines = cell_ring("zzxzzzyz")
        table = joint_table(lines)
        self.assertEqual([table[k][(k + 1) % 8] for k in range(8)], [6, 1, 4, 6, 6, 4, 1, 6])
        self.assert_holds(0, 4, lines, 2, [0, 1, 7])
        self.assert_holds(4, 0, lines, 2, [2, 3, 4, 5, 6])
        self.assert_holds(2, 5, lines, 5, [2])
        self.assert_holds(5, 2, lines, 5, [3, 4, 5, 6])
        self.assert_holds(1, 7, lines, 7, [1])
        self.assert_holds(7, 1, lines, 7, [7])

    def test_a_net_of_cells(self):
        places = [(0, 1), (1, 1), (1, 0), (2, 1), (2, 2), (3, 1), (0, 0), (2, 0), (1, 2), (3, 2), (3, 0), (0, 2)]
        lines = ["part z 1 1 1 z"] + [f"put z rb {x} {y} 0" for x, y in places]
        table = joint_table(lines)
        for i, j in itertools.permutations(range(len(places)), 2):
            told = holds_lines(i, j, lines)
            least, cuts = least_cuts(table, i, j)
            self.assertEqual(told, [least, len(cuts[0])] + cuts[0])


class ThroughOthers(HoldsCase):
    def test_through_one_large_put(self):
        lines = ["part base 5 1 1 x", "part leg 1 1 1 x", "put leg rb 0 0 1", "put leg rb 4 0 1", "put base rb 0 0 0"]
        self.assert_holds(0, 1, lines, 6, [0])
        self.assert_holds(1, 0, lines, 6, [1])
        self.assert_holds(2, 1, lines, 6, [0, 2])

    def test_more_than_their_own_joint(self):
        lines = ["part z 1 1 1 z", "put z rb 0 0 0", "put z rb 1 0 0", "put z rb 0 1 0", "put z rb 1 1 0"]
        self.assert_holds(0, 1, lines, 12, [0])
        self.assert_holds(0, 3, lines, 12, [0])

    def test_a_cut_of_many_puts_may_be_weaker_than_of_one(self):
        lines = ["part z 1 1 1 z", "part y 1 1 1 y"]
        lines += [f"put z rb {x} {y} 0" for x in (0, 1) for y in (0, 1)] + ["put y rb 0 2 0"]
        lines += [f"put z rb {x} {y} 0" for x in (0, 1) for y in (3, 4)]
        self.assert_holds(0, 5, lines, 1, [0, 1, 2, 3])
        self.assert_holds(8, 3, lines, 1, [5, 6, 7, 8])
        self.assert_holds(4, 0, lines, 1, [4, 5, 6, 7, 8])
        self.assert_holds(4, 8, lines, 1, [0, 1, 2, 3, 4])


class NothingHolds(HoldsCase):
    def test_the_cut_is_all_that_hangs_together(self):
        lines = cell_row("xzxyyzzx")
        self.assert_holds(0, 7, lines, 0, [0, 1, 2, 3])
        self.assert_holds(7, 0, lines, 0, [4, 5, 6, 7])
        self.assert_holds(3, 4, lines, 0, [0, 1, 2, 3])
        self.assert_holds(4, 3, lines, 0, [4, 5, 6, 7])
        self.assert_holds(3, 2, lines, 1, [3])

    def test_puts_that_hang_on_nothing(self):
        lines = ["part a 1 1 1 x"] + apart(32)
        self.assert_holds(31, 0, lines, 0, [31])
        self.assert_holds(0, 31, lines, 0, [0])

    def test_parts_of_which_nothing_is_left(self):
        lines = ["part a 1 1 1 x", "cut 0 0 0 1 1 1", "put a rb 0 0 0", "put a rb 0 0 0", "put a rb 1 0 0"]
        self.assert_holds(0, 1, lines, 0, [0])
        self.assert_holds(2, 1, lines, 0, [2])


class LargeWorks(HoldsCase):
    def test_a_row_of_32(self):
        lines = ["part x 1 1 1 x"] + [f"put x rb 0 {k} 0" for k in range(32)]
        self.assert_holds(0, 31, lines, 6, [0])
        self.assert_holds(31, 0, lines, 6, [31])
        self.assert_holds(20, 30, lines, 6, list(range(21)))
        self.assert_holds(20, 10, lines, 6, list(range(20, 32)))

    def test_32_blocks(self):
        places = list(itertools.product((0, 16, 32, 48), (0, 16, 32, 48), (0, 16)))
        lines = ["part a 16 16 16 z"] + [f"put a rb {at[0]} {at[1]} {at[2]}" for at in places]
        self.assert_holds(0, 30, lines, 2 * 1536, [0])
        self.assert_holds(30, 0, lines, 2 * 1536, [30])
        self.assert_holds(10, 12, lines, 4 * 1536, [10])
        self.assert_holds(2, 10, lines, 3 * 1536, [2])
        self.assert_holds(10, 2, lines, 3 * 1536, list(range(4, 32, 2)))
        self.assert_holds(0, 31, lines, 0, list(range(0, 32, 2)))
        self.assert_holds(31, 0, lines, 0, list(range(1, 32, 2)))

    def test_random_works_part_where_told(self):
        rng = random.Random(21)
        self.check_random(rng, random_work(rng, 32), random_dry(rng, 32, 20))
        self.check_random(rng, random_cells(rng, 32, (4, 4, 2)), random_dry(rng, 32, 3))

    def check_random(self, rng, lines, dry):
        table = joint_table(lines, dry)
        held = {}
        for i, j in rng.sample(list(itertools.combinations(range(32), 2)), 120):
            told, back = holds_lines(i, j, lines, dry), holds_lines(j, i, lines, dry)
            self.assertEqual(told[0], back[0])
            held[i, j] = told[0]
            for first, second, answer in ((i, j, told), (j, i, back)):
                members = answer[2:]
                self.assertEqual(members, sorted(set(members)))
                self.assertEqual(answer[1], len(members))
                self.assertIn(first, members)
                self.assertNotIn(second, members)
                self.assertEqual(strength(table, members), answer[0])
                self.assertLessEqual(answer[0], min(sum(table[i]), sum(table[j])))
                self.assertGreaterEqual(answer[0], table[i][j])
        self.assertGreater(len(set(held.values())), 5)


class AgainstAllCuts(HoldsCase):
    def assert_least(self, lines, dry=()):
        table = joint_table(lines, dry)
        several = 0
        for i, j in itertools.permutations(range(len(table)), 2):
            least, cuts = least_cuts(table, i, j)
            self.assert_holds(i, j, lines, least, cuts[0], list(dry))
            for members in cuts:
                self.assertLessEqual(set(cuts[0]), set(members))
            several += len(cuts) > 1
        return several

    def test_random_works(self):
        rng = random.Random(31)
        several = 0
        for k in range(40):
            several += self.assert_least(random_work(rng, rng.randint(2, 6)))
        self.assertGreater(several, 100)

    def test_random_works_with_dry_pairs(self):
        rng = random.Random(32)
        for k in range(20):
            count = rng.randint(3, 6)
            self.assert_least(random_work(rng, count), random_dry(rng, count, rng.randint(1, 4)))

    def test_cells_close_together(self):
        rng = random.Random(33)
        for k in range(12):
            self.assert_least(random_cells(rng, 8, (2, 2, 2)), random_dry(rng, 8, k % 3))


class DryPairs(HoldsCase):
    def test_either_way_round_or_twice(self):
        for dry in ([0, 1], [1, 0], [0, 1, 0, 1], [0, 1, 1, 0], [2, 0, 1, 0]):
            self.assert_holds(0, 2, THREE, 0, [0], dry)
            self.assert_holds(2, 0, THREE, 0, [1, 2], dry)
            self.assert_holds(1, 2, THREE, 6, [1], dry)

    def test_one_side_of_a_ring(self):
        lines = cell_ring("z" * 8)
        self.assert_holds(0, 4, lines, 6, [0], [7, 0])
        self.assert_holds(0, 4, lines, 6, [0, 6, 7], [5, 6])
        self.assert_holds(0, 4, lines, 0, [0, 1, 6, 7], [5, 6, 2, 1])

    def test_a_pair_that_does_not_touch(self):
        self.assert_holds(0, 2, THREE, 6, [0], [0, 2])

    def test_the_pair_itself(self):
        lines = ["part z 1 1 1 z", "put z rb 0 0 0", "put z rb 1 0 0", "put z rb 0 1 0", "put z rb 1 1 0"]
        self.assert_holds(0, 1, lines, 6, [0], [0, 1])


class Refusals(unittest.TestCase):
    def test_no_such_put(self):
        for i, j in [(0, 3), (3, 0), (3, 3), (3, 4), (LARGEST_NUMBER, 0), (0, LARGEST_NUMBER), (2, 3),
                     (LARGEST_NUMBER, LARGEST_NUMBER)]:
            self.assertEqual(holds_lines(i, j, THREE), [-4], (i, j))
        for lines in ([], ["part a 1 1 1 x"]):
            self.assertEqual(holds_lines(0, 1, lines), [-4])
            self.assertEqual(holds_lines(0, 0, lines), [-4])

    def test_alike(self):
        for i in range(3):
            self.assertEqual(holds_lines(i, i, THREE), [-8])
        self.assertEqual(holds_lines(0, 0, ["part a 1 1 1 x"] + apart(1)), [-8])

    def test_what_every_call_refuses_first(self):
        for text, dry, answer in FIRST_REFUSALS:
            for i, j in [(0, 1), (1, 1), (0, 99), (99, 99), (LARGEST_NUMBER, 0)]:
                self.assertEqual(holds(i, j, text, dry), answer)


class Handing(HandingChecks, unittest.TestCase):
    call = staticmethod(holds)
    names = ("i", "j", "text", "dry")
    handed = [
        ((0, 2, text_of(THREE), []), [6, 1, 0]),
        ((2, 0, text_of(THREE), [0, 1, 1, 0]), [0, 2, 1, 2]),
        ((0, 6, text_of(cell_row("xxzyzzx")), [1, 0]), [0, 1, 0]),
        ((0, 6, text_of(cell_row("xxzyzzx")), []), [1, 3, 0, 1, 2]),
        ((1, 1, text_of(THREE), [0, 2]), [-8]),
        ((0, 3, text_of(THREE), [0, 2]), [-4]),
    ] + [((0, 1, text, dry), answer) for text, dry, answer in FIRST_REFUSALS]


if __name__ == "__main__":
    unittest.main()
