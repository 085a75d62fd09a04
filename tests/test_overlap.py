"""Which cells a put has, and the first pair of puts that overlap (-9)."""

import itertools
import unittest

from helper import ACROSS, CROOKED, cells_left, judge_lines, turned


def crooked_cells():
    return cells_left((2, 3, 4), [[int(word) for word in line.split()[1:]] for line in CROOKED[1:]])


def told_cells(part_lines, ways, corner, reach):
    """The cells of a put, each found by a put of one cell laid upon it."""
    told = set()
    for cell in itertools.product(range(-1, reach), repeat=3):
        at = [corner[k] + cell[k] for k in range(3)]
        answer = judge_lines(part_lines + ["part probe 1 1 1 x", f"put a {ways} {corner[0]} {corner[1]} {corner[2]}",
                                           f"put probe rb {at[0]} {at[1]} {at[2]}"])
        if answer == [-9, 0, 1]:
            told.add(cell)
        elif answer != [0]:
            raise AssertionError(answer)
    return told


class Cells(unittest.TestCase):
    def test_each_pair_of_ways(self):
        cells = crooked_cells()
        seen = set()
        for ways in ACROSS:
            expected = turned(cells, (2, 3, 4), ways)
            self.assertEqual(told_cells(CROOKED, ways, (5, 9, 14), 5), expected, ways)
            seen.add(frozenset(expected))
        self.assertEqual(len(seen), 24)

    def test_as_it_lies_in_its_text(self):
        self.assertEqual(told_cells(CROOKED, "rb", (1, 1, 1), 5), set(crooked_cells()))

    def test_right_to_the_left(self):
        expected = {(1 - x, y, 3 - z) for x, y, z in crooked_cells()}
        self.assertEqual(told_cells(CROOKED, "lb", (1, 2, 3), 5), expected)

    def test_right_to_the_back_and_back_to_the_left(self):
        expected = {(2 - y, x, z) for x, y, z in crooked_cells()}
        self.assertEqual(told_cells(CROOKED, "bl", (1, 2, 3), 5), expected)

    def test_right_to_the_back_and_back_up(self):
        expected = {(z, x, y) for x, y, z in crooked_cells()}
        self.assertEqual(told_cells(CROOKED, "bu", (1, 2, 3), 5), expected)

    def test_cuts_are_of_the_part_they_stand_behind(self):
        lines = ["part a 2 1 1 x", "cut 0 0 0 1 1 1", "part b 2 1 1 x", "cut 1 0 0 1 1 1"]
        self.assertEqual(judge_lines(lines + ["put a rb 0 0 0", "put b rb 0 0 0"]), [0])
        self.assertEqual(judge_lines(lines + ["put a rb 0 0 0", "put b rb 1 0 0"]), [-9, 0, 1])

    def test_a_cut_is_as_long_as_told(self):
        block = (4, 5, 6)
        cells = set(itertools.product(*[range(length) for length in block]))
        gone = {cell for cell in cells if 1 <= cell[0] < 3 and 2 <= cell[1] < 5 and 0 <= cell[2] < 4}
        lines = ["part a 4 5 6 y", "cut 1 2 0 2 3 4"]
        self.assertEqual(told_cells(lines, "rb", (1, 1, 1), 7), cells - gone)


class Overlap(unittest.TestCase):
    def test_the_same_place(self):
        self.assertEqual(judge_lines(["part a 1 1 1 x", "put a rb 0 0 0", "put a rb 0 0 0"]), [-9, 0, 1])

    def test_puts_that_only_touch(self):
        for at in ("13 10 10", "7 10 10", "10 14 10", "10 6 10", "10 10 15", "10 10 5", "13 14 15", "7 6 10", "13 10 5"):
            self.assertEqual(judge_lines(["part a 3 4 5 x", "put a rb 10 10 10", f"put a rb {at}"]), [0], at)

    def test_puts_that_share_a_single_cell(self):
        for at in ("12 13 14", "8 7 6", "12 7 14", "8 13 6"):
            self.assertEqual(judge_lines(["part a 3 4 5 x", "put a rb 10 10 10", f"put a rb {at}"]), [-9, 0, 1], at)

    def test_cuts_keep_the_cells_apart(self):
        lines = ["part frame 3 3 1 x", "cut 1 1 0 1 1 1", "part pin 1 1 3 z", "put frame rb 0 0 1"]
        self.assertEqual(judge_lines(lines + ["put pin rb 1 1 0"]), [0])
        self.assertEqual(judge_lines(lines + ["put pin rb 1 2 0"]), [-9, 0, 1])

    def test_turned_puts_keep_apart(self):
        lines = ["part a 2 1 2 x", "cut 1 0 1 1 1 1", "put a rb 0 0 0"]
        self.assertEqual(judge_lines(lines + ["put a lf 0 0 0"]), [-9, 0, 1])
        self.assertEqual(judge_lines(lines + ["put a rf 1 0 1"]), [0])
        self.assertEqual(judge_lines(lines + ["put a rf 1 0 0"]), [-9, 0, 1])

    def test_the_farthest_edge(self):
        lines = ["part a 16 16 16 x", "put a rb 48 48 48"]
        for corner in itertools.product((0, 32, 48), repeat=3):
            at = " ".join([str(number) for number in corner])
            expected = [-9, 0, 1] if corner == (48, 48, 48) else [0]
            self.assertEqual(judge_lines(lines + [f"put a rb {at}"]), expected, at)

    def test_edges_of_the_grid_do_not_meet(self):
        lines = ["part a 16 16 16 x", "put a rb 48 0 0", "put a rb 0 1 0", "put a rb 0 48 0", "put a rb 0 17 1",
                 "put a rb 16 0 48", "put a rb 32 0 1"]
        self.assertEqual(judge_lines(lines), [0])


class FirstPair(unittest.TestCase):
    def overlap(self, places, name="a"):
        return judge_lines([f"part {name} 2 1 1 x"] + [f"put {name} rb {at} 0 0" for at in places])

    def test_by_the_first_then_the_second(self):
        self.assertEqual(self.overlap([0, 10, 20, 10, 20]), [-9, 1, 3])
        self.assertEqual(self.overlap([0, 10, 20, 20, 10]), [-9, 1, 4])
        self.assertEqual(self.overlap([0, 10, 10, 20, 0]), [-9, 0, 4])
        self.assertEqual(self.overlap([10, 20, 20, 20, 11, 9]), [-9, 0, 4])
        self.assertEqual(self.overlap([30, 10, 11, 12, 31]), [-9, 0, 4])
        self.assertEqual(self.overlap([5, 6, 5]), [-9, 0, 1])
        self.assertEqual(self.overlap([5, 9, 5, 6]), [-9, 0, 2])

    def test_three_at_one_place(self):
        self.assertEqual(self.overlap([40, 5, 5, 5]), [-9, 1, 2])

    def test_a_chain(self):
        self.assertEqual(self.overlap([2, 0, 1]), [-9, 0, 2])
        self.assertEqual(self.overlap([0, 2, 1]), [-9, 0, 2])
        self.assertEqual(self.overlap([0, 2, 4, 3, 5]), [-9, 1, 3])

    def test_the_last_pair_of_all(self):
        places = [3 * k for k in range(16)]
        lines = ["part a 2 1 1 x"]
        lines += [f"put a rb {at} 0 0" for at in places] + [f"put a rb {at} 5 0" for at in places]
        self.assertEqual(judge_lines(lines), [0])
        lines[-1] = "put a rb 43 5 0"
        self.assertEqual(judge_lines(lines), [-9, 30, 31])

    def test_the_order_is_that_of_puts_not_of_parts(self):
        lines = ["part a 1 1 1 x", "part b 1 1 1 x", "put b rb 0 0 0", "put a rb 5 0 0", "put b rb 5 0 0", "put a rb 0 0 0"]
        self.assertEqual(judge_lines(lines), [-9, 0, 3])

    def test_the_largest_work(self):
        lines = ["part a 16 16 16 x"]
        for at in itertools.product((0, 16, 32, 48), (0, 16, 32, 48), (0, 16)):
            lines.append(f"put a lu {at[0]} {at[1]} {at[2]}")
        self.assertEqual(len(lines), 33)
        self.assertEqual(judge_lines(lines), [0])
        lines[32] = "put a fd 48 48 15"
        self.assertEqual(judge_lines(lines), [-9, 30, 31])


if __name__ == "__main__":
    unittest.main()
