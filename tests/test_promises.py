"""What is promised over all calls: of three puts, of works turned or moved, and of dry pairs."""

import itertools
import random
import unittest

from gluegrain.bench import clump, cut, holds, joint, judge, weakest
from helper import (ACROSS, CROOKED, THREE, cell_ring, joint_table, random_cells, random_dry, random_work, text_of,
                    turned_work)

STRENGTHS = (1, 4, 6, 12, 18)


def all_answers(lines, dry, count):
    """What every call answers of a work of so many puts."""
    text = text_of(lines)
    sets = [list(members) for size in (1, 2, count) for members in itertools.combinations(range(count), size)]
    told = {("judge",): judge(text, dry), ("weakest",): weakest(text, dry)}
    for i, j in itertools.permutations(range(count), 2):
        told["joint", i, j] = joint(i, j, text, dry)
        told["holds", i, j] = holds(i, j, text, dry)
    for members in sets:
        told["cut", tuple(members)] = cut(text, dry, members)
    for s, i in itertools.product(STRENGTHS, range(count)):
        told["clump", s, i] = clump(s, i, text, dry)
    return told


class ThreePuts(unittest.TestCase):
    def test_no_less_than_the_lesser(self):
        rng = random.Random(81)
        for k in range(20):
            lines = random_cells(rng, 7, (2, 2, 2))
            dry = random_dry(rng, 7, k % 4)
            held = {(i, j): holds(i, j, text_of(lines), dry)[0] for i, j in itertools.permutations(range(7), 2)}
            for i, j, third in itertools.permutations(range(7), 3):
                self.assertEqual(held[i, j], held[j, i])
                self.assertGreaterEqual(held[i, j], min(held[i, third], held[j, third]))
            self.assertEqual(weakest(text_of(lines), dry)[0], min(held.values()))


class TurnedOrMoved(unittest.TestCase):
    def test_turned_all_ways(self):
        rng = random.Random(82)
        lines = random_work(rng, 5)
        while sum(map(sum, joint_table(lines))) < 60:
            lines = random_work(rng, 5)
        expected = all_answers(lines, [], 5)
        for ways in ACROSS:
            self.assertEqual(all_answers(turned_work(lines, ways, (3, 0, 7)), [], 5), expected, ways)

    def test_moved(self):
        rng = random.Random(83)
        for k in range(4):
            lines = random_work(rng, 4)
            dry = random_dry(rng, 4, k % 2)
            expected = all_answers(lines, dry, 4)
            for move in ((0, 0, 0), (1, 0, 0), (0, 1, 0), (0, 0, 1), (40, 40, 40), (0, 40, 13)):
                self.assertEqual(all_answers(turned_work(lines, "rb", move), dry, 4), expected, move)

    def test_turned_and_moved(self):
        rng = random.Random(84)
        for k in range(12):
            lines = random_work(rng, 4)
            dry = random_dry(rng, 4, k % 3)
            move = [rng.randint(0, 40) for k in range(3)]
            turned_lines = turned_work(lines, rng.choice(ACROSS), move)
            self.assertEqual(all_answers(turned_lines, dry, 4), all_answers(lines, dry, 4))

    def test_crooked_puts(self):
        lines = CROOKED + ["part b 3 3 3 z", "put a rb 5 5 5", "put a lu 7 5 5", "put b fd 5 9 5", "put b rb 8 9 5"]
        expected = all_answers(lines, [], 4)
        self.assertEqual(expected["judge",], [0])
        self.assertGreater(max(map(max, joint_table(lines))), 0)
        for ways in ACROSS:
            self.assertEqual(all_answers(turned_work(lines, ways, (0, 40, 21)), [], 4), expected, ways)


class DryPairs(unittest.TestCase):
    def assert_no_stronger(self, lines, dry, more, count):
        before, after = all_answers(lines, dry, count), all_answers(lines, more, count)
        for asked in before:
            if asked[0] == "clump":
                self.assertLessEqual(set(after[asked][1:]), set(before[asked][1:]), asked)
            else:
                self.assertLessEqual(after[asked][0], before[asked][0], asked)
        return before != after

    def test_one_pair_more_and_more(self):
        rng = random.Random(85)
        changed = 0
        for k in range(12):
            lines = random_cells(rng, 6, (2, 2, 2))
            dry = []
            for pair in rng.sample(list(itertools.combinations(range(6), 2)), 5):
                more = dry + list(pair)
                changed += self.assert_no_stronger(lines, dry, more, 6)
                dry = more
        self.assertGreater(changed, 15)

    def test_a_pair_told_again_changes_nothing(self):
        lines = cell_ring("zzxzzzyz")
        expected = all_answers(lines, [0, 1, 5, 4], 8)
        for dry in ([1, 0, 4, 5], [5, 4, 0, 1], [0, 1, 5, 4, 0, 1], [4, 5, 1, 0, 0, 1, 5, 4], [0, 1, 5, 4, 2, 6]):
            self.assertEqual(all_answers(lines, dry, 8), expected)


class ByItself(unittest.TestCase):
    def test_calls_in_between_change_nothing(self):
        ring = cell_ring("zzxzzzyz")
        first = all_answers(ring, [0, 1], 8)
        all_answers(THREE, [0, 1], 3)
        all_answers(ring, [2, 3], 8)
        self.assertEqual(all_answers(ring, [0, 1], 8), first)

    def test_one_list_for_the_pairs_and_the_set(self):
        both = [0, 1]
        self.assertEqual(cut(text_of(THREE), both, both), [6])
        self.assertEqual(both, [0, 1])


if __name__ == "__main__":
    unittest.main()
