"""Works that are right: judge answers 0."""

import contextlib
import io
import unittest

from gluegrain.bench import judge
from helper import ACROSS, apart, judge_lines, text_of

TABLE = [
    "part top 16 10 1 x",
    "cut 0 0 0 2 2 1",
    "cut 14 8 0 2 2 1",
    "part leg 2 2 7 z",
    "put top rb 10 10 7",
    "put leg rb 12 10 0",
    "put leg lf 24 18 0",
    "put leg ub 30 10 0",
]


class RightWorks(unittest.TestCase):
    def test_no_lines(self):
        self.assertEqual(judge([], []), [0])

    def test_parts_without_puts(self):
        self.assertEqual(judge_lines(["part a 1 1 1 x"]), [0])
        self.assertEqual(judge_lines(["part a 1 2 3 x", "part b 16 16 16 y", "cut 0 0 0 1 1 1"]), [0])

    def test_parts_cuts_and_puts(self):
        self.assertEqual(judge_lines(TABLE), [0])

    def test_each_grain(self):
        for grain in "xyz":
            self.assertEqual(judge_lines([f"part a 1 1 1 {grain}", "put a rb 0 0 0"]), [0])

    def test_each_pair_of_ways(self):
        self.assertEqual(len(ACROSS), 24)
        for ways in ACROSS:
            self.assertEqual(judge_lines(["part a 2 3 4 x", f"put a {ways} 5 6 7"]), [0], ways)

    def test_dry_pairs_either_way_round_or_twice(self):
        for dry in ([0, 1], [1, 0], [0, 1, 1, 0], [0, 1, 0, 1], [3, 0, 2, 1], [1, 3, 0, 2, 3, 1]):
            self.assertEqual(judge_lines(TABLE, dry), [0], dry)

    def test_cuts_that_cut_nothing_or_all(self):
        lines = ["part a 2 2 2 x", "cut 0 0 0 2 2 2", "cut 0 0 0 2 2 2", "cut 1 1 1 1 1 1"]
        self.assertEqual(judge_lines(lines + ["put a rb 0 0 0", "put a rb 0 0 0"]), [0])

    def test_one_part_put_often(self):
        self.assertEqual(judge_lines(["part a 1 1 1 x"] + apart(32)), [0])

    def test_a_part_called_like_a_line(self):
        self.assertEqual(judge_lines(["part put 1 1 1 x", "part cut 1 1 1 x", "part part 1 1 1 x",
                                      "put put rb 0 0 0", "put cut rb 1 0 0", "put part rb 2 0 0"]), [0])


class Watched(list):
    """A list that tells when it is changed, for however short a while."""

    def refuse(self, *given, **named):
        raise AssertionError("what was handed in is changed")

    append = extend = insert = pop = remove = clear = sort = reverse = refuse
    __setitem__ = __delitem__ = __iadd__ = __imul__ = refuse


CALLS = [
    ([], []),
    (text_of(TABLE), [0, 1, 3, 2]),
    (text_of(TABLE), [0]),
    (text_of(TABLE + ["put leg rb 13 11 0"]), [0, 1]),
    (text_of(TABLE + ["cut 0 0 0 1 1 1"]), []),
    (text_of(TABLE)[:-1], []),
    ([10] * 65537, []),
]


class Handing(unittest.TestCase):
    def test_nothing_handed_in_is_changed(self):
        for text, dry in CALLS:
            handed_text, handed_dry = Watched(text), Watched(dry)
            judge(handed_text, handed_dry)
            self.assertEqual((list(handed_text), list(handed_dry)), (text, dry))

    def test_a_second_call_answers_as_the_first(self):
        first = [judge(text, dry) for text, dry in CALLS]
        self.assertEqual(first, [[0], [0], [-1], [-9, 1, 4], [-6, 8, 3], [-6, 7, 1], [-2]])
        self.assertEqual([judge(text, dry) for text, dry in CALLS], first)
        self.assertEqual([judge(text, dry) for text, dry in reversed(CALLS)], first[::-1])

    def test_a_changed_answer_changes_no_later_one(self):
        for text, dry in CALLS:
            answer = judge(text, dry)
            kept = list(answer)
            answer.append(7)
            answer[0] = 5
            self.assertEqual(judge(text, dry), kept)

    def test_answers_are_lists_of_whole_numbers(self):
        for text, dry in CALLS:
            answer = judge(text, dry)
            self.assertIs(type(answer), list)
            self.assertEqual({type(number) for number in answer}, {int})

    def test_arguments_by_name(self):
        self.assertEqual(judge(text=text_of(TABLE), dry=[0, 1]), [0])

    def test_nothing_is_printed(self):
        out, err = io.StringIO(), io.StringIO()
        with contextlib.redirect_stdout(out), contextlib.redirect_stderr(err):
            for text, dry in CALLS:
                judge(text, dry)
        self.assertEqual(out.getvalue() + err.getvalue(), "")


if __name__ == "__main__":
    unittest.main()
