"""The text's fault: its line, from 0 on, and why (-6)."""

import unittest

from gluegrain.bench import judge
from helper import ACROSS, ALONG, WAYS, apart, bytes_of, judge_lines, text_of

PART = "part a 16 16 16 x"
CUT = "cut 0 0 0 1 1 1"
PUT = "put a rb 0 0 0"


def parts(count):
    return [f"part p{k} 1 1 1 x" for k in range(count)]


class FaultCase(unittest.TestCase):
    def assert_last_is_wrong(self, lines, why):
        """The last line has the fault, and is so whether or not lines stand behind it."""
        expected = [-6, len(lines) - 1, why]
        self.assertEqual(judge_lines(lines), expected, lines[-1])
        self.assertEqual(judge_lines(lines + ["?", PART]), expected, lines[-1])

    def assert_right(self, lines):
        self.assertEqual(judge_lines(lines), [0], lines[-1])


class PartLines(FaultCase):
    def test_not_formed(self):
        for line in ["part", "part a", "part a 1 1 1", "part a 1 1 x", "part a 1 1 1 x x", "part a 1 1 1 1 x",
                     "Part a 1 1 1 x", "parts a 1 1 1 x", "par a 1 1 1 x", "a part 1 1 1 x",
                     "part a 1 1 1 w", "part a 1 1 1 X", "part a 1 1 1 xy", "part a 1 1 1 1", "part a x 1 1 1",
                     "part a 1 1 1 r", "part a b 1 1 x", "part a -1 1 1 x", "part a +1 1 1 x", "part a 1. 1 1 x",
                     "part a 1_0 1 1 x", "part a 0x1 1 1 x"]:
            self.assert_last_is_wrong([line], 1)

    def test_blanks(self):
        for line in ["part  a 1 1 1 x", "part a  1 1 1 x", "part a 1 1 1  x", " part a 1 1 1 x", "part a 1 1 1 x ",
                     "part\ta 1 1 1 x", "part a 1 1 1 x\r", "part a 1 1 1 x\x00", "part a,1 1 1 x"]:
            self.assert_last_is_wrong([line], 1)

    def test_names(self):
        for name in ["a", "z", "0", "9", "00", "abcdefghijkl", "mnopqrstuvwx", "yz0123456789"]:
            self.assert_right([f"part {name} 1 1 1 x", f"put {name} rb 0 0 0"])
        for name in ["", "abcdefghijklm", "a" * 1000, "A", "Z", "a_b", "a-b", "a.b", "?", "\xe4", "a`", "a{", "a/", "a:",
                     "\xb2", "\xff", "\x80"]:
            self.assert_last_is_wrong([f"part {name} 1 1 1 x"], 1)
            self.assert_last_is_wrong([PART, f"put {name} rb 0 0 0"], 1)

    def test_bounds(self):
        for place in range(3):
            for word, is_right in [("0", False), ("1", True), ("9", True), ("16", True), ("17", False), ("26", False),
                                   ("01", False), ("00", False), ("016", False), ("1000", False), ("1" * 6000, False)]:
                words = ["1", "1", "1"]
                words[place] = word
                line = "part a " + " ".join(words) + " x"
                if is_right:
                    self.assert_right([line])
                else:
                    self.assert_last_is_wrong([line], 1)

    def test_behind_a_put(self):
        self.assert_last_is_wrong([PART, PUT, "part b 1 1 1 x"], 3)

    def test_a_name_told_already(self):
        self.assert_last_is_wrong([PART, "part a 1 1 1 x"], 4)
        self.assert_last_is_wrong([PART, "part b 1 1 1 x", CUT, PART], 4)

    def test_the_33rd(self):
        self.assert_right(parts(32))
        self.assert_last_is_wrong(parts(33), 2)

    def test_which_reason_first(self):
        self.assert_last_is_wrong([PART, PUT, "part a 0 1 1 x"], 1)
        self.assert_last_is_wrong(parts(32) + ["part p0 17 1 1 x"], 1)
        self.assert_last_is_wrong([PART, PUT, PART], 3)
        self.assert_last_is_wrong(parts(32) + ["put p0 rb 0 0 0", "part p0 1 1 1 x"], 3)
        self.assert_last_is_wrong(parts(32) + ["put p0 rb 0 0 0", "part q 1 1 1 x"], 3)
        self.assert_last_is_wrong(parts(32) + ["part p31 1 1 1 x"], 4)


class CutLines(FaultCase):
    def test_not_formed(self):
        for line in ["cut", "cut 0 0 0 1 1", "cut 0 0 0 1 1 1 1", "cut 0 0 1 1 1", "cut a 0 0 0 1 1 1", "Cut 0 0 0 1 1 1",
                     "cuts 0 0 0 1 1 1", "cut x 0 0 1 1 1", "cut 0 0 0 1 1 x", "cut -1 0 0 1 1 1", "cut +0 0 0 1 1 1",
                     "cut 0.0 0 0 1 1 1", "cut  0 0 0 1 1 1", " cut 0 0 0 1 1 1", "cut 0 0 0 1 1 1 ",
                     "cut 0 0 0 1 1  1", "cut 0 0 0 1 1 1\r", "cut \xb2 0 0 1 1 1", "cut 0 0 0 1 1 \xb9"]:
            self.assert_last_is_wrong([PART, line], 1)

    def test_lengths(self):
        for place in range(3):
            for word, is_right in [("0", False), ("1", True), ("16", True), ("17", False), ("01", False), ("", False),
                                   ("1" * 5000, False)]:
                words = ["0", "0", "0", "1", "1", "1"]
                words[3 + place] = word
                line = "cut " + " ".join(words)
                if is_right:
                    self.assert_right([PART, line])
                else:
                    self.assert_last_is_wrong([PART, line], 1)

    def test_places_are_any_numbers(self):
        for place in range(3):
            for word, why in [("0", 0), ("15", 0), ("16", 4), ("17", 4), ("99", 4), ("100", 4), ("999", 4), ("1000", 4),
                              ("4294967296", 4), ("1" + "0" * 20, 4), ("9" * 4300, 4), ("9" * 4301, 4), ("1" * 60000, 4),
                              ("", 1), ("00", 1), ("01", 1), ("0" * 60000, 1), ("0" + "1" * 5000, 1),
                              ("1" * 5000 + "a", 1), ("1" * 5000 + "\xb2", 1)]:
                words = ["0", "0", "0", "1", "1", "1"]
                words[place] = word
                line = "cut " + " ".join(words)
                if why == 0:
                    self.assert_right([PART, line])
                else:
                    self.assert_last_is_wrong([PART, line], why)

    def test_beyond_the_block(self):
        block = (3, 5, 7)
        for place in range(3):
            for length in range(1, block[place] + 1):
                words = ["0", "0", "0", "1", "1", "1"]
                words[3 + place] = str(length)
                words[place] = str(block[place] - length)
                self.assert_right(["part a 3 5 7 x", "cut " + " ".join(words)])
                words[place] = str(block[place] - length + 1)
                self.assert_last_is_wrong(["part a 3 5 7 x", "cut " + " ".join(words)], 4)

    def test_the_block_is_that_of_the_last_part(self):
        self.assert_right(["part a 1 1 1 x", "part b 2 2 2 x", "cut 1 1 1 1 1 1"])
        self.assert_last_is_wrong(["part b 2 2 2 x", "part a 1 1 1 x", "cut 1 1 1 1 1 1"], 4)

    def test_before_any_part(self):
        self.assert_last_is_wrong([CUT], 3)

    def test_behind_a_put(self):
        self.assert_last_is_wrong([PART, PUT, CUT], 3)

    def test_the_65th(self):
        self.assert_right([PART] + [CUT] * 64)
        self.assert_last_is_wrong([PART] + [CUT] * 65, 2)

    def test_each_part_has_its_own_64(self):
        lines = [PART] + [CUT] * 64 + ["part b 1 1 1 x"] + [CUT] * 64
        self.assert_right(lines)
        self.assert_last_is_wrong(lines + [CUT], 2)

    def test_which_reason_first(self):
        self.assert_last_is_wrong(["cut 0 0 0 17 1 1"], 1)
        self.assert_last_is_wrong([PART, PUT, "cut 00 0 0 1 1 1"], 1)
        self.assert_last_is_wrong([PART] + [CUT] * 64 + ["cut 0 0 0 1 1 0"], 1)
        self.assert_last_is_wrong(["cut 99 0 0 1 1 1"], 3)
        self.assert_last_is_wrong([PART, PUT, "cut 99 0 0 1 1 1"], 3)
        self.assert_last_is_wrong([PART] + [CUT] * 64 + [PUT, CUT], 3)
        self.assert_last_is_wrong([PART] + [CUT] * 64 + ["cut 16 0 0 1 1 1"], 4)


class PutLines(FaultCase):
    def test_not_formed(self):
        for line in ["put", "put a", "put a rb", "put a rb 0 0", "put a rb 0 0 0 0", "put a 0 0 0", "put rb 0 0 0",
                     "put a r b 0 0 0", "Put a rb 0 0 0", "puts a rb 0 0 0", "put rb a 0 0 0", "put a rb 0 0 x",
                     "put a rb -1 0 0", "put  a rb 0 0 0", " put a rb 0 0 0", "put a rb 0 0 0 ", "put a rb 0  0 0",
                     "put a rb 0 0 0\r", "put a rb 0 0 \xb3"]:
            self.assert_last_is_wrong([PART, line], 1)

    def test_ways(self):
        for ways in ACROSS:
            self.assert_right([PART, f"put a {ways} 0 0 0"])
        self.assertEqual(len(ALONG), 12)
        for ways in ALONG + list(WAYS) + ["", "rbu", "rbr", "RB", "Rb", "rx", "xr", "01", "r?", "?b", "lbf", "r\xe2"]:
            self.assert_last_is_wrong([PART, f"put a {ways} 0 0 0"], 1)

    def test_corner(self):
        for place in range(3):
            for word, is_right in [("0", True), ("1", True), ("48", True), ("49", False), ("00", False), ("048", False),
                                   ("480", False), ("", False), ("4" * 5000, False)]:
                words = ["0", "0", "0"]
                words[place] = word
                line = "put a rb " + " ".join(words)
                if is_right:
                    self.assert_right([PART, line])
                else:
                    self.assert_last_is_wrong([PART, line], 1)

    def test_before_any_part(self):
        self.assert_last_is_wrong([PUT], 3)

    def test_of_a_name_that_is_none(self):
        self.assert_last_is_wrong([PART, "put b rb 0 0 0"], 4)
        self.assert_last_is_wrong([PART, PUT, "put aa rb 0 0 0"], 4)

    def test_the_33rd(self):
        self.assert_right(["part a 1 1 1 x"] + apart(32))
        self.assert_last_is_wrong(["part a 1 1 1 x"] + apart(33), 2)

    def test_which_reason_first(self):
        self.assert_last_is_wrong(["put a rr 0 0 0"], 1)
        self.assert_last_is_wrong([PART, "put b rb 0 0 49"], 1)
        self.assert_last_is_wrong(["part a 1 1 1 x"] + apart(32) + ["put a rl 0 0 0"], 1)
        self.assert_last_is_wrong(["put b rb 0 0 0"], 3)
        self.assert_last_is_wrong(["part a 1 1 1 x"] + apart(32) + ["put b rb 0 0 0"], 4)


class Lines(FaultCase):
    def test_no_such_line(self):
        for line in ["", " ", "a", "glue a", "?", "part", "x" * 65000, "\xff"]:
            self.assert_last_is_wrong([line], 1)
            self.assert_last_is_wrong([PART, line], 1)
            self.assert_last_is_wrong([PART, PUT, line], 1)

    def test_only_line_feeds(self):
        self.assertEqual(judge([10], []), [-6, 0, 1])
        self.assertEqual(judge([10] * 65536, []), [-6, 0, 1])

    def test_an_empty_line_at_the_end(self):
        self.assertEqual(judge(text_of([PART, PUT]) + [10], []), [-6, 2, 1])

    def test_last_line_without_its_feed(self):
        lines = [PART, CUT, PUT]
        for count in (1, 2, 3):
            self.assertEqual(judge(text_of(lines[:count])[:-1], []), [-6, count - 1, 1])

    def test_without_its_feed_comes_before_other_reasons(self):
        for lines in ([CUT], [PUT], [PART, PART], [PART, PUT, CUT], [PART, "put b rb 0 0 0"], parts(33)):
            self.assertEqual(judge(text_of(lines)[:-1], []), [-6, len(lines) - 1, 1])

    def test_an_earlier_fault_comes_before_a_missing_feed(self):
        self.assertEqual(judge(text_of([PART, PART, PUT])[:-1], []), [-6, 1, 4])

    def test_any_byte_in_a_name_or_behind_a_line(self):
        names = set(b"abcdefghijklmnopqrstuvwxyz0123456789")
        for byte in range(256):
            expected = [0] if byte in names else [-6, 0, 1]
            self.assertEqual(judge(bytes_of("part a") + [byte] + bytes_of(" 1 1 1 x\n"), []), expected, byte)
            self.assertEqual(judge(text_of([PART]) + [byte], [])[:2], [-6, 1], byte)

    def test_any_byte_in_the_place_of_a_blank(self):
        for byte in range(256):
            expected = [0] if byte == 32 else [-6, 0, 1]
            self.assertEqual(judge(bytes_of("part") + [byte] + bytes_of("a 1 1 1 x\n"), []), expected, byte)

    def test_any_byte_as_a_number(self):
        for byte in range(256):
            expected = [0] if 49 <= byte <= 57 else [-6, 0, 1]
            self.assertEqual(judge(bytes_of("part a ") + [byte] + bytes_of(" 1 1 x\n"), []), expected, byte)

    def test_the_first_of_several_faults(self):
        self.assertEqual(judge_lines([PART, "put b rb 0 0 0", "", CUT]), [-6, 1, 4])
        self.assertEqual(judge_lines([PART, CUT, PUT, CUT, "", PART]), [-6, 3, 3])

    def test_a_fault_far_down(self):
        lines = []
        for k in range(32):
            lines += [f"part p{k} 1 1 1 x"] + [CUT] * 64
        self.assert_right(lines)
        self.assertEqual(judge_lines(lines + apart(32, "p7") + [CUT]), [-6, 32 * 65 + 32, 3])


if __name__ == "__main__":
    unittest.main()
