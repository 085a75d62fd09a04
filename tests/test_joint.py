"""The joint of two puts: the worths of the faces they touch with."""

import itertools
import random
import unittest

from gluegrain.bench import joint
from helper import (ACROSS, CROOKED, FIRST_REFUSALS, LARGEST_NUMBER, STEPS, THREE, HandingChecks, apart, joint_table,
                    random_dry, random_work, text_of)

# By the grains of the two puts and the axis along which the face looks.
WORTH = {
    ("x", "x"): {"x": 0, "y": 6, "z": 6},
    ("y", "y"): {"x": 6, "y": 0, "z": 6},
    ("z", "z"): {"x": 6, "y": 6, "z": 0},
    ("x", "y"): {"x": 1, "y": 1, "z": 4},
    ("x", "z"): {"x": 1, "y": 4, "z": 1},
    ("y", "z"): {"x": 4, "y": 1, "z": 1},
}
AXIS = {"r": "x", "l": "x", "b": "y", "f": "y", "u": "z", "d": "z"}
CELLS = ["part x 1 1 1 x", "part y 1 1 1 y", "part z 1 1 1 z"]


def worth(grain, other, way):
    return WORTH[tuple(sorted((grain, other)))][AXIS[way]]


def joint_lines(i, j, lines, dry=()):
    return joint(i, j, text_of(lines), list(dry))


def beside(at, way):
    return " ".join([str(at[k] + STEPS[way][k]) for k in range(3)])


class JointCase(unittest.TestCase):
    def assert_joint(self, lines, expected, dry=()):
        """Of the puts 0 and 1, asked both ways round."""
        self.assertEqual(joint_lines(0, 1, lines, dry), [expected], lines)
        self.assertEqual(joint_lines(1, 0, lines, dry), [expected], lines)

    def assert_all_joints(self, lines, dry=()):
        table = joint_table(lines, dry)
        for i, j in itertools.permutations(range(len(table)), 2):
            self.assertEqual(joint_lines(i, j, lines, dry), [table[i][j]], (i, j, lines, dry))
        return table


class OneFace(JointCase):
    def test_each_worth_by_the_grains_and_the_way(self):
        seen = set()
        for grain, other in itertools.product("xyz", repeat=2):
            for way in "rlbfud":
                lines = CELLS + [f"put {grain} rb 5 5 5", f"put {other} rb {beside((5, 5, 5), way)}"]
                self.assert_joint(lines, worth(grain, other, way))
                seen.add(worth(grain, other, way))
        self.assertEqual(seen, {0, 1, 4, 6})

    def test_puts_that_lie_apart(self):
        for at in ("7 5 5", "3 5 5", "5 7 5", "5 3 5", "5 5 7", "5 5 3", "48 48 48", "0 0 0", "7 7 7"):
            self.assert_joint(CELLS + ["put x rb 5 5 5", f"put x rb {at}"], 0)

    def test_puts_that_touch_along_an_edge_or_in_a_corner(self):
        for step in itertools.product((-1, 0, 1), repeat=3):
            if [abs(length) for length in step].count(1) < 2:
                continue
            at = " ".join([str(5 + length) for length in step])
            for grain, other in itertools.product("xyz", repeat=2):
                self.assert_joint(CELLS + [f"put {grain} rb 5 5 5", f"put {other} rb {at}"], 0)


class SeveralFaces(JointCase):
    def test_blocks_side_by_side(self):
        lines = ["part a 3 4 5 x", "put a rb 10 10 10"]
        for at, expected in [("13 10 10", 0), ("7 10 10", 0), ("10 14 10", 6 * 15), ("10 6 10", 6 * 15),
                             ("10 10 15", 6 * 12), ("10 10 5", 6 * 12)]:
            self.assert_joint(lines + [f"put a rb {at}"], expected)

    def test_blocks_that_touch_with_a_part_of_their_faces(self):
        lines = ["part a 3 4 5 x", "part b 3 4 5 y", "put a rb 10 10 10"]
        self.assert_joint(lines + ["put a rb 12 14 13"], 6 * 1 * 2)
        self.assert_joint(lines + ["put b rb 12 14 13"], 1 * 1 * 2)
        self.assert_joint(lines + ["put b rb 11 12 15"], 4 * 2 * 2)
        self.assert_joint(lines + ["put b rb 8 7 5"], 4 * 1 * 1)
        self.assert_joint(lines + ["put b rb 13 13 14"], 1)
        self.assert_joint(lines + ["put b rb 13 14 14"], 0)

    def test_a_pin_in_a_hole(self):
        lines = ["part frame 3 3 1 x", "cut 1 1 0 1 1 1", "part x 1 1 1 x", "part y 1 1 1 y", "part z 1 1 1 z",
                 "put frame rb 5 5 5"]
        self.assert_joint(lines + ["put x rb 6 6 5"], 0 + 0 + 6 + 6)
        self.assert_joint(lines + ["put y rb 6 6 5"], 1 + 1 + 1 + 1)
        self.assert_joint(lines + ["put z rb 6 6 5"], 1 + 1 + 4 + 4)

    def test_a_cell_shut_in_on_all_six_sides(self):
        for grain, other in itertools.product("xyz", repeat=2):
            lines = [f"part shell 3 3 3 {grain}", "cut 1 1 1 1 1 1", f"part core 1 1 1 {other}",
                     "put shell rb 0 0 0", "put core rb 1 1 1"]
            self.assert_joint(lines, sum([worth(grain, other, way) for way in "rlbfud"]))

    def test_combs_that_grip_one_another(self):
        lines = ["part comb 5 2 1 z", "cut 1 1 0 1 1 1", "cut 3 1 0 1 1 1", "part tines 5 2 1 z", "cut 0 0 0 1 1 1",
                 "cut 2 0 0 1 1 1", "cut 4 0 0 1 1 1", "put comb rb 0 0 0", "put tines rb 0 1 0"]
        self.assertEqual(joint_table(lines)[0][1], 6 * (4 + 5))
        self.assert_joint(lines, 6 * (4 + 5))

    def test_cuts_take_away_what_would_touch(self):
        plain = ["part a 2 2 1 z", "part b 2 2 1 z", "put a rb 0 0 0", "put b rb 2 0 0"]
        self.assert_joint(plain, 12)
        self.assert_joint(plain[:1] + ["cut 1 0 0 1 1 1"] + plain[1:], 6)
        self.assert_joint(plain[:1] + ["cut 1 0 0 1 2 1"] + plain[1:], 0)
        self.assert_joint(plain[:1] + ["cut 0 0 0 1 2 1"] + plain[1:], 12)
        self.assert_joint(plain[:1] + ["cut 0 0 0 2 2 1"] + plain[1:], 0)
        self.assert_joint(plain[:2] + ["cut 0 1 0 1 1 1"] + plain[2:], 6)
        self.assert_joint(plain[:1] + ["cut 1 0 0 1 1 1"] + plain[1:2] + ["cut 0 1 0 1 1 1"] + plain[2:], 0)

    def test_puts_between_others(self):
        lines = ["part a 1 1 1 y", "put a rb 0 0 0", "put a rb 2 0 0", "put a rb 1 0 0"]
        self.assertEqual([joint_lines(i, j, lines) for i, j in ((0, 1), (0, 2), (1, 2))], [[0], [6], [6]])

    def test_puts_of_one_part(self):
        self.assertEqual(joint_lines(0, 1, THREE), [6])
        self.assertEqual(joint_lines(1, 2, THREE), [6])
        self.assertEqual(joint_lines(0, 2, THREE), [0])


class TurnedPuts(JointCase):
    def test_where_the_grain_points(self):
        """Each pair of ways turns the axes x, y, z to these."""
        axes = {"rb": "xyz", "ru": "xzy", "br": "yxz", "bu": "yzx", "ur": "zxy", "ub": "zyx"}
        plain = {"l": "r", "f": "b", "d": "u"}
        for ways in ACROSS:
            turned_axes = axes["".join([plain.get(way, way) for way in ways])]
            for grain, now in zip("xyz", turned_axes):
                for other, way in itertools.product("xyz", "rlbfud"):
                    lines = CELLS + [f"put {grain} {ways} 5 5 5", f"put {other} rb {beside((5, 5, 5), way)}"]
                    self.assert_joint(lines, worth(now, other, way))

    def test_crooked_puts_turned_all_ways(self):
        """A cell laid beside them all round, so that each cell they have tells."""
        around = list(itertools.product(range(9, 15), repeat=3))
        for grain, ways in zip("xyz" * 8, ACROSS):
            lines = [CROOKED[0][:-1] + grain] + CROOKED[1:] + ["part c 1 1 1 y", f"put a {ways} 10 10 10"]
            touching = 0
            for at in around:
                more = lines + [f"put c rb {at[0]} {at[1]} {at[2]}"]
                told = joint_lines(0, 1, more)
                if told != [-9, 0, 1]:
                    self.assertEqual(told, [joint_table(more)[0][1]], more)
                    touching += told[0] > 0
            self.assertGreater(touching, 5)

    def test_two_crooked_puts(self):
        rng = random.Random(5)
        touching = 0
        for ways in ACROSS:
            for other_ways in ACROSS:
                at = [str(10 + rng.choice((-2, -1, 0, 1, 2))) for k in range(3)]
                lines = CROOKED + [f"put a {ways} 10 10 10", f"put a {other_ways} {at[0]} {at[1]} {at[2]}"]
                told = joint_lines(0, 1, lines)
                if told != [-9, 0, 1]:
                    self.assertEqual(told, [joint_table(lines)[0][1]], lines)
                    touching += told[0] > 0
        self.assertGreater(touching, 100)


class Edges(JointCase):
    def test_blocks_at_the_far_and_the_near_corner(self):
        lines = ["part a 16 16 16 z", "put a rb 48 48 48"]
        for at, expected in [("32 48 48", 1536), ("48 32 48", 1536), ("48 48 32", 0), ("32 32 48", 0), ("33 32 33", 6),
                             ("32 33 33", 6), ("33 33 32", 0)]:
            self.assert_joint(lines + [f"put a rb {at}"], expected)
        lines = ["part a 16 16 16 z", "put a rb 0 0 0"]
        for at, expected in [("16 0 0", 1536), ("0 16 0", 1536), ("0 0 16", 0), ("16 16 0", 0), ("16 16 16", 0),
                             ("16 15 15", 6), ("15 16 15", 6), ("15 15 16", 0)]:
            self.assert_joint(lines + [f"put a rb {at}"], expected)

    def test_the_grid_does_not_close_round(self):
        for grain in "xyz":
            lines = [f"part a 16 16 16 {grain}"]
            for corner, other in itertools.combinations(itertools.product((0, 48), repeat=3), 2):
                puts = ["put a rb " + " ".join(map(str, at)) for at in (corner, other)]
                self.assert_joint(lines + puts, 0)

    def test_a_row_does_not_go_on_in_the_next(self):
        lines = ["part x 16 1 1 y", "part y 1 16 1 z", "part c 1 1 1 z"]
        for at in ("0 1 0", "0 0 0", "0 2 0", "0 1 1"):
            self.assert_joint(lines + ["put x rb 48 0 0", f"put c rb {at}"], 0)
            self.assert_joint(lines + ["put x rb 48 1 0", f"put c rb {at}"], 0)
        for at in ("0 0 1", "0 0 0", "1 0 1", "0 0 2"):
            self.assert_joint(lines + ["put y rb 0 48 0", f"put c rb {at}"], 0)
            self.assert_joint(lines + ["put y rb 0 48 1", f"put c rb {at}"], 0)

    def test_a_work_of_32_blocks(self):
        places = list(itertools.product((0, 16, 32, 48), (0, 16, 32, 48), (0, 16)))
        lines = ["part a 16 16 16 y"] + [f"put a rb {at[0]} {at[1]} {at[2]}" for at in places]
        for i, j in [(0, 1), (0, 2), (0, 8), (0, 3), (23, 31), (30, 31), (29, 31), (0, 31), (31, 0), (7, 8)]:
            steps = [abs(places[i][k] - places[j][k]) for k in range(3)]
            expected = {(16, 0, 0): 1536, (0, 16, 0): 0, (0, 0, 16): 1536}.get(tuple(steps), 0)
            self.assertEqual(joint_lines(i, j, lines), [expected], (i, j))


class AgainstTheSlowWay(JointCase):
    def test_random_works(self):
        rng = random.Random(11)
        touching = 0
        for k in range(60):
            count = rng.randint(2, 7)
            lines = random_work(rng, count)
            table = self.assert_all_joints(lines, random_dry(rng, count, rng.randint(0, 3)))
            touching += sum([row[j] > 0 for row in table for j in range(count)])
        self.assertGreater(touching, 200)

    def test_a_random_work_of_32_puts(self):
        rng = random.Random(12)
        self.assert_all_joints(random_work(rng, 32), random_dry(rng, 32, 60))


class DryPairs(JointCase):
    def test_the_pair_told_either_way_round_or_twice(self):
        for dry in ([0, 1], [1, 0], [0, 1, 0, 1], [0, 1, 1, 0], [1, 0, 1, 0], [0, 2, 1, 0], [1, 2, 2, 0, 0, 1]):
            self.assert_joint(THREE, 0, dry)

    def test_other_pairs_told(self):
        for dry in ([], [0, 2], [1, 2], [2, 1, 2, 0], [2, 0, 0, 2]):
            self.assert_joint(THREE, 6, dry)

    def test_numbers_of_two_pairs_are_no_pair(self):
        lines = ["part a 1 1 1 x"] + [f"put a rb 0 {k} 0" for k in range(4)]
        self.assertEqual(joint_lines(1, 2, lines, [0, 1, 2, 3]), [6])
        self.assertEqual(joint_lines(0, 1, lines, [0, 1, 2, 3]), [0])
        self.assertEqual(joint_lines(2, 3, lines, [0, 1, 2, 3]), [0])

    def test_a_pair_that_does_not_touch(self):
        self.assertEqual(joint_lines(0, 2, THREE, [0, 2]), [0])

    def test_every_pair_told(self):
        every_pair = [number for pair in itertools.combinations(range(32), 2) for number in pair]
        lines = ["part a 1 1 1 x"] + [f"put a rb 0 {k} 0" for k in range(32)]
        self.assertEqual(joint_lines(30, 31, lines), [6])
        self.assertEqual(joint_lines(30, 31, lines, every_pair[:-2]), [6])
        self.assertEqual(joint_lines(30, 31, lines, every_pair), [0])


class Refusals(unittest.TestCase):
    def test_no_such_put(self):
        for i, j in [(0, 3), (3, 0), (3, 3), (3, 4), (LARGEST_NUMBER, 0), (0, LARGEST_NUMBER), (2, 3),
                     (LARGEST_NUMBER, LARGEST_NUMBER), (LARGEST_NUMBER - 1, LARGEST_NUMBER)]:
            self.assertEqual(joint_lines(i, j, THREE), [-4], (i, j))

    def test_a_work_without_puts(self):
        for lines in ([], ["part a 1 1 1 x"]):
            for i, j in [(0, 1), (0, 0), (1, 1), (LARGEST_NUMBER, 0)]:
                self.assertEqual(joint_lines(i, j, lines), [-4])

    def test_alike(self):
        for i in range(3):
            self.assertEqual(joint_lines(i, i, THREE), [-8])
        self.assertEqual(joint_lines(0, 0, ["part a 1 1 1 x"] + apart(1)), [-8])
        self.assertEqual(joint_lines(31, 31, ["part a 1 1 1 x"] + apart(32)), [-8])
        self.assertEqual(joint_lines(32, 32, ["part a 1 1 1 x"] + apart(32)), [-4])

    def test_what_every_call_refuses_first(self):
        for text, dry, answer in FIRST_REFUSALS:
            for i, j in [(0, 1), (1, 1), (0, 99), (99, 99), (LARGEST_NUMBER, 0)]:
                self.assertEqual(joint(i, j, text, dry), answer)


class Handing(HandingChecks, unittest.TestCase):
    call = staticmethod(joint)
    names = ("i", "j", "text", "dry")
    handed = [
        ((0, 1, text_of(THREE), []), [6]),
        ((2, 1, text_of(THREE), [0, 1, 1, 0]), [6]),
        ((0, 1, text_of(THREE), [0, 1, 1, 0]), [0]),
        ((0, 2, text_of(THREE), []), [0]),
        ((1, 1, text_of(THREE), [0, 2]), [-8]),
        ((0, 3, text_of(THREE), [0, 2]), [-4]),
    ] + [((0, 1, text, dry), answer) for text, dry, answer in FIRST_REFUSALS]


if __name__ == "__main__":
    unittest.main()
