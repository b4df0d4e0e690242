"""run: IF, ELSE, REP, END and KIL."""

import unittest

from handing import (GREATEST, INF, NAN, ONE, SIGN, ZEROS, lines, load, results, results_of_points, single,
                     singles)

LEAST = 1
MINUS = SIGN | INF
NO_NUMBERS = (NAN, 0x7F800001, 0x7FFFFFFF, 0xFF800001, 0xFFC00000, 0xFFFFFFFF)
GREATER_THAN_0 = (LEAST, 0x007FFFFF, 0x00800000, ONE, GREATEST, INF)
LESS_THAN_0 = tuple(bits | SIGN for bits in GREATER_THAN_0)
NEITHER = (0, SIGN) + NO_NUMBERS
# v7 is never given here, so its w is 1.
COUNT = "ADD r0.x,r0.x,v7.w"
COUNT_TEN = lines(*[COUNT] * 10)


def counted(text, *vectors):
    """How many COUNTs were run, or None of a point that's left out."""
    told = results(lines(text, "MOV o0,r0"), *vectors)
    return None if told is None else told[0]


def many(number):
    return [single(number), 0, 0, 0]


class If(unittest.TestCase):
    def test_greater_than_0(self):
        for bits in GREATER_THAN_0:
            self.assertEqual(results(lines("IF v0.x", "MOV o0,v0", "END"), [bits] * 4)[0], [bits] * 4)
        for bits in LESS_THAN_0 + NEITHER:
            self.assertEqual(results(lines("IF v0.x", "MOV o0,v0", "END"), [bits] * 4)[0], ZEROS)

    def test_else(self):
        text = lines("IF v0.y", COUNT, "ELSE", COUNT_TEN, "END")
        for bits in GREATER_THAN_0:
            self.assertEqual(counted(text, [0, bits, 0, 0]), many(1))
        for bits in LESS_THAN_0 + NEITHER:
            self.assertEqual(counted(text, [ONE, bits, ONE, ONE]), many(10))

    def test_part_and_minus(self):
        vector = singles(1, -1, 0, 2)
        for operand, number in (("v0.x", 1), ("v0.y", 0), ("v0.z", 0), ("v0.w", 1), ("-v0.x", 0), ("-v0.y", 1),
                                ("v0.xxxx", 1), ("v0.yyyy", 0), ("-v0.yyyy", 1), ("-v0.zzzz", 0)):
            self.assertEqual(counted(lines(f"IF {operand}", COUNT, "END"), vector), many(number), operand)

    def test_empty_lines_within(self):
        for first in (ONE, 0):
            self.assertEqual(counted(lines("IF v0.x", "END", COUNT), [first] * 4), many(1))
            self.assertEqual(counted(lines("IF v0.x", "ELSE", "END", COUNT), [first] * 4), many(1))
        self.assertEqual(counted(lines("IF v0.x", "ELSE", COUNT, "END"), [ONE] * 4), many(0))
        self.assertEqual(counted(lines("IF v0.x", COUNT, "ELSE", "END"), [ONE] * 4), many(1))

    def test_asked_once(self):
        # What's asked changes within the lines: they're run to their END all the same.
        text = lines("MOV r1,v0", "IF r1.x", "MOV r1,-r1", COUNT, "ELSE", COUNT_TEN, "END")
        self.assertEqual(counted(text, [ONE] * 4), many(1))
        self.assertEqual(counted(text, [SIGN | ONE] * 4), many(10))

    def test_within_one_another(self):
        text = lines("IF v0.x",
                     "IF v0.y", "MOV r0.x,c0.x", COUNT, "ELSE", COUNT, COUNT, "END",
                     "ELSE",
                     "IF v0.y", COUNT, COUNT, COUNT, "END",
                     COUNT_TEN,
                     "END",
                     "IF v0.z", COUNT_TEN, COUNT_TEN, "END")
        for x, y, z, number in ((1, 1, 0, 1), (1, 0, 0, 2), (0, 1, 0, 13), (0, 0, 0, 10), (1, 1, 1, 21), (1, 0, 1, 22),
                                (0, 1, 1, 33), (0, 0, 1, 30)):
            self.assertEqual(counted(text, singles(x, y, z, 0)), many(number), (x, y, z))

    def test_eight_deep(self):
        rows = ["IF v0.x"] * 8 + [COUNT] + ["ELSE", COUNT_TEN, "END"] * 8
        self.assertEqual(counted(lines(*rows), [ONE] * 4), many(1))
        self.assertEqual(counted(lines(*rows), ZEROS), many(10))


class Rep(unittest.TestCase):
    def test_times(self):
        for times in (1, 2, 7, 255):
            self.assertEqual(counted(lines(f"REP {times}", COUNT, "END")), many(times))

    def test_more_than_one_line_within(self):
        self.assertEqual(counted(lines("REP 5", COUNT, "MUL r0.x,r0.x,c0.x", COUNT, "END")), many(1))
        self.assertEqual(counted(lines("REP 3", COUNT, COUNT, "END", COUNT)), many(7))
        self.assertEqual(counted(lines("REP 9", "END", COUNT)), many(1))

    def test_what_is_written_stays_from_time_to_time(self):
        self.assertEqual(results(lines("MOV r1,v0", "REP 5", "MUL r1,r1,v0", "END", "MOV o0,r1"), singles(2, 1, 3, -1))[0],
                         singles(64, 1, 729, 1))

    def test_within_one_another(self):
        self.assertEqual(counted(lines("REP 3", "REP 4", COUNT, "END", "END")), many(12))
        self.assertEqual(counted(lines("REP 3", COUNT, "REP 4", COUNT, "END", "REP 2", COUNT, "END", "END")), many(21))
        rows = ["REP 2"] * 8 + [COUNT] + ["END"] * 8
        self.assertEqual(counted(lines(*rows)), many(256))

    def test_if_within(self):
        # Counts up to 3, then down by tens: whether it's greater than 0 is asked anew each time.
        text = lines("MOV r1.x,v0.x", "REP 5", "IF r1.x", COUNT, "SUB r1.x,r1.x,v7.w", "ELSE", COUNT_TEN, "END", "END")
        self.assertEqual(counted(text, singles(3, 0, 0, 0)), many(23))
        self.assertEqual(counted(text, singles(9, 0, 0, 0)), many(5))
        self.assertEqual(counted(text, ZEROS), many(50))

    def test_within_if(self):
        text = lines("IF v0.x", "REP 4", COUNT, "END", "ELSE", "REP 6", "REP 2", COUNT, "END", "END", "END", COUNT)
        self.assertEqual(counted(text, [ONE] * 4), many(5))
        self.assertEqual(counted(text, ZEROS), many(13))

    def test_most_instructions(self):
        # 1 + 255 times (2 + 127 times 2) + 1, and what follows: as many as a point may run, but for few.
        text = lines("REP 255", "REP 127", COUNT, "END", "END")
        self.assertEqual(counted(text), many(255 * 127))


class Kil(unittest.TestCase):
    def test_less_than_0(self):
        for bits in LESS_THAN_0:
            for part in range(4):
                vector = [ONE] * 4
                vector[part] = bits
                self.assertIsNone(results(lines("MOV o0,v0", "KIL v0"), vector))

    def test_not_less(self):
        for bits in GREATER_THAN_0 + NEITHER:
            self.assertEqual(results(lines("KIL v0", "MOV o0,v0"), [bits] * 4)[0], [bits] * 4)

    def test_parts_and_minus(self):
        vector = singles(1, -1, 0, 2)
        for operand, kept in (("v0", False), ("v0.y", False), ("v0.x", True), ("v0.z", True), ("v0.xzwx", True),
                              ("v0.xxxy", False), ("-v0.y", True), ("-v0.x", False), ("-v0.z", True), ("-v0.yzyy", True),
                              ("-v0.yyyw", False)):
            self.assertEqual(results(f"KIL {operand}", vector) is not None, kept, operand)

    def test_first_or_last_line(self):
        for text in (lines("KIL v0", "MOV o0,v0"), lines("MOV o0,-v0", "KIL v0"), "KIL v0"):
            self.assertIsNone(results(text, [SIGN | ONE] * 4))
            self.assertIsNotNone(results(text, [ONE] * 4))

    def test_within_if(self):
        text = lines("MOV o0,v0", "IF v0.x", "KIL v0.y", "ELSE", "KIL v0.z", "END", "MOV o1,v0")
        for vector, kept in (((1, 1, -1, -1), True), ((1, -1, 1, 1), False), ((0, -1, 1, 1), True), ((0, 1, -1, 1), False)):
            told = results(text, singles(*vector))
            self.assertEqual(told, [singles(*vector)] * 2 + [ZEROS] * 2 if kept else None, vector)

    def test_within_rep(self):
        # Left out at the fourth time, where there is one.
        for times, kept in ((1, True), (3, True), (4, False), (255, False)):
            text = lines("MOV r1,v0", f"REP {times}", "SUB r1.x,r1.x,v7.w", "IF v7.w", "REP 2", "KIL r1", "END", "END",
                         "END", "MOV o0,r1")
            told = results(text, singles(3, 0, 0, 0))
            self.assertEqual(told is not None, kept, times)
            if kept:
                self.assertEqual(told[0], singles(3 - times, 0, 0, 0))

    def test_its_run_ends_and_the_next_ones_does_not(self):
        text = lines("ADD r0,r0,v0", "MOV o0,r0", "REP 2", "IF v7.w", "KIL v0", "END", "END", "MOV o1,r0")
        points = [[singles(*row)] for row in ((1, 1, 1, 1), (-1, 1, 1, 1), (2, 2, 2, 2), (1, 1, 1, -1), (3, 3, 3, 3))]
        told = results_of_points(load(text), points)
        for point, row in zip(points, told):
            left_out = any(part & SIGN for part in point[0])
            self.assertEqual(row, None if left_out else point[0] * 2 + ZEROS * 2)


if __name__ == "__main__":
    unittest.main()
