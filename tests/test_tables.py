"""table, and how TEX reads."""

import unittest

from fourfloats.machine import Machine
from handing import (BEGIN, GREATEST, GREATEST_NUMBER, INF, NAN, NOT_GIVEN, ONE, SIGN, half, last_answer, lines, load,
                     results, results_of_points, single, singles, table)

MINUS = SIGN | INF
PLAIN = 0
MIXED = 1
NO_NUMBERS = (NAN, 0x7F800001, 0x7FFFFFFF, 0xFF800001, 0xFFFFFFFF)


def numbered(w, h, first=1):
    """Halves whose first part numbers the places from first on; the others are 10, 20 and 30 times as much."""
    return [half(times * (first + place)) for place in range(w * h) for times in (1, 10, 20, 30)]


def place(number):
    return singles(number, 10 * number, 20 * number, 30 * number)


def read(before, points, unit=0):
    """What is read at each x, y, given by their bits."""
    rows = results_of_points(list(before) + load(f"TEX o0,v0,t{unit}"), [[[x, y, 7, 8]] for x, y in points])
    return [row[:4] for row in rows]


class Plain(unittest.TestCase):
    def reads(self, w, h, rows):
        told = read(table(0, w, h, PLAIN, numbered(w, h)), [(x, y) for x, y, number in rows])
        for (x, y, number), got in zip(rows, told):
            self.assertEqual(got, place(number), (hex(x), hex(y)))

    def test_within(self):
        rows = []
        for row in range(2):
            for column in range(4):
                for part in (0.0, 0.125, 0.5, 0.875):
                    rows.append((single((column + part) / 4), single((row + part) / 2), 1 + 4 * row + column))
        self.reads(4, 2, rows)

    def test_row_by_row(self):
        self.reads(3, 2, [(single(0.5), single(0.25), 2), (single(0.5), single(0.75), 5), (single(0.75), single(0.25), 3)])

    def test_before_the_first_and_behind_the_last(self):
        quarter = single(0.25)
        self.reads(4, 2, [(single(-0.125), quarter, 1), (single(-9.0), quarter, 1), (SIGN | 1, quarter, 1),
                          (SIGN, quarter, 1), (SIGN | GREATEST, quarter, 1), (ONE, quarter, 4), (single(1.25), quarter, 4),
                          (ONE - 1, quarter, 4), (GREATEST, quarter, 4), (single(1e9), quarter, 4)])
        self.reads(4, 2, [(quarter, single(-0.125), 2), (quarter, SIGN | 1, 2), (quarter, SIGN | GREATEST, 2),
                          (quarter, ONE, 6), (quarter, GREATEST, 6), (quarter, ONE - 1, 6), (GREATEST, GREATEST, 8),
                          (SIGN | 1, ONE, 5), (ONE, SIGN | 1, 4)])

    def test_infinities_and_no_numbers(self):
        quarter = single(0.25)
        self.reads(4, 2, [(INF, quarter, 4), (MINUS, quarter, 1), (quarter, INF, 6), (quarter, MINUS, 2), (INF, INF, 8),
                          (MINUS, INF, 5), (INF, MINUS, 4)])
        self.reads(4, 2, [(bits, single(0.5), 5) for bits in NO_NUMBERS] + [(single(0.5), bits, 3) for bits in NO_NUMBERS])

    def test_times_is_rounded(self):
        # These are a little less than 5/6, 7/10 and 9/10; times 6 and 10 they are rounded to 5, 7 and 9.
        self.reads(6, 1, [(0x3F555555, 0, 6), (0x3F555554, 0, 5), (0x3F555556, 0, 6)])
        self.reads(10, 1, [(0x3F333333, 0, 8), (0x3F333332, 0, 7), (0x3F666666, 0, 10), (0x3F666665, 0, 9)])
        self.reads(1, 6, [(0, 0x3F555555, 6), (0, 0x3F555554, 5)])

    def test_one_place(self):
        some = (0, SIGN, 1, single(0.5), ONE, single(-7.0), GREATEST, INF, MINUS) + NO_NUMBERS
        self.reads(1, 1, [(x, y, 1) for x in some for y in some])

    def test_one_row_and_one_column(self):
        self.reads(5, 1, [(single(0.5), single(y), 3) for y in (-1.0, 0.0, 0.5, 1.0, 7.0)])
        self.reads(1, 5, [(single(x), single(0.5), 3) for x in (-1.0, 0.0, 0.5, 1.0, 7.0)])

    def test_halves_as_they_are(self):
        halves = [0x0001, 0x8000, 0x7BFF, 0x83FF, 0x7C00, 0xFC00, 0x7C01, 0xFFFF]
        told = read(table(0, 2, 1, PLAIN, halves), [(0, 0), (ONE, 0)])
        self.assertEqual(told, [[0x33800000, SIGN, 0x477FE000, 0xB87FC000], [INF, MINUS, NAN, NAN]])


class Mixed(unittest.TestCase):
    def reads(self, w, h, rows, halves=None):
        told = read(table(0, w, h, MIXED, halves or numbered(w, h)), [row[:2] for row in rows])
        for row, got in zip(rows, told):
            expected = place(row[2]) if isinstance(row[2], (int, float)) else row[2]
            self.assertEqual(got, expected, [hex(part) for part in row[:2]])

    def test_middles_of_places(self):
        self.reads(4, 2, [(single((column + 0.5) / 4), single((row + 0.5) / 2), 1 + 4 * row + column)
                          for row in range(2) for column in range(4)])

    def test_between_places(self):
        at = [single(number) for number in (0.125, 0.25, 0.3125, 0.5, 0.75)]
        rows = [(at[0], single(0.25), 1), (at[1], single(0.25), 1.5), (at[2], single(0.25), 1.75), (at[3], single(0.25), 2.5)]
        rows += [(at[0], single(0.5), 3), (at[0], single(0.625), 4), (at[1], single(0.5), 3.5), (at[4], single(0.625), 6.5)]
        self.reads(4, 2, rows)

    def test_before_the_first_and_behind_the_last(self):
        quarter = single(0.25)
        self.reads(4, 2, [(0, quarter, 1), (SIGN | 1, quarter, 1), (single(-7.25), quarter, 1), (ONE, quarter, 4),
                          (single(0.9375), quarter, 4), (single(77.25), quarter, 4), (GREATEST >> 1, quarter, 4)])
        eighth = single(0.125)
        self.reads(4, 2, [(eighth, 0, 1), (eighth, single(-0.25), 1), (eighth, ONE, 5), (eighth, single(0.875), 5),
                          (eighth, single(1e6), 5), (0, 0, 1), (ONE, 0, 4), (0, ONE, 5), (ONE, ONE, 8)])
        self.reads(4, 2, [(0, single(0.5), 3), (ONE, single(0.5), 6), (single(0.25), 0, 1.5), (single(0.25), ONE, 5.5)])

    def test_infinities_and_no_numbers(self):
        # What's left of an infinity behind its FLR is no number, and so is all that's mixed by it.
        quarter = single(0.25)
        for bits in (INF, MINUS, GREATEST, SIGN | GREATEST) + NO_NUMBERS:
            self.reads(4, 2, [(bits, quarter, [NAN] * 4), (quarter, bits, [NAN] * 4), (bits, bits, [NAN] * 4)])

    def test_one_place(self):
        self.reads(1, 1, [(x, y, 1) for x in (0, single(0.5), ONE, single(-3.25)) for y in (0, single(0.5), single(9.0))])
        self.reads(1, 1, [(INF, 0, [NAN] * 4), (0, NAN, [NAN] * 4)])
        self.reads(1, 1, [(GREATEST, SIGN | GREATEST, 1)])

    def test_one_row_and_one_column(self):
        self.reads(3, 1, [(single(0.5), single(y), 2) for y in (-1.0, 0.0, 0.25, 0.5, 1.0)])
        self.reads(1, 2, [(single(x), single(0.5), 1.5) for x in (-1.0, 0.0, 0.25, 0.5, 1.0)])

    def test_infinite_halves(self):
        halves = [half(1.0), 0x7C00, 0xFC00, 0x7C00, half(2.0), half(1.0), half(1.0), 0x7C00]
        told = read(table(0, 2, 1, MIXED, halves), [(single(0.5), 0), (single(0.25), 0), (single(0.75), 0)])
        # From an infinity on, and of none of an infinity, it's no number; past the last place only that one counts.
        self.assertEqual(told, [[single(1.5), NAN, NAN, NAN], [ONE, NAN, NAN, NAN], [single(2.0), ONE, ONE, NAN]])
        halves = [half(1.0), half(1.0), half(1.0), 0x7E01, half(2.0), 0x7C00, 0xFC00, half(1.0)]
        told = read(table(0, 2, 1, MIXED, halves), [(single(0.5), 0), (single(0.25), 0), (0, 0)])
        # Both rows are the first one, and between two infinities that are the same there's no number.
        self.assertEqual(told, [[single(1.5), NAN, NAN, NAN], [ONE, NAN, NAN, NAN], [ONE, ONE, ONE, NAN]])

    def test_little_steps(self):
        # 2^-24 behind the first place's middle lies halfway to the next single, and goes to the even one.
        told = read(table(0, 2, 1, MIXED, numbered(2, 1)), [(single(0.25) + 1, 0), (single(0.25) + 2, 0)])
        self.assertEqual([row[:2] for row in told], [[ONE, single(10.0) + 1], [ONE + 1, single(10.0) + 1]])

    def test_times_is_rounded(self):
        # A little less than 5/6, times 6, is rounded to 5.
        halves = numbered(6, 1)
        self.reads(6, 1, [(0x3F555555, 0, 5.5)], halves)

    def test_rounds_as_lrp(self):
        # Differences rounded, then product and sum rounded once, first between columns and then between rows.
        words = [0x3555, 0x3BFF, 0x0001, 0x7BFF, 0x2E66, 0x4248, 0x03FF, 0xFBFF,
                 0xB555, 0x3C01, 0x8001, 0x0400, 0x5640, 0x4170, 0x1234, 0x7000]
        points = [(0x3EC00001, 0x3F0ABCDE), (0x3F000003, 0x3EFFFFFF), (0x3F2AAAAB, 0x3EAAAAAB), (0x3F3FFFFF, 0x3E800001)]
        told = read(table(0, 2, 2, MIXED, words), points)
        text = lines("MUL r0,v0,c0", "SUB r0,r0,c1", "FRC r0,r0",
                     "LRP r1,r0.x,v2,v1", "LRP r2,r0.x,v4,v3", "LRP o0,r0.y,r2,r1")
        before = [2, 0] + singles(2, 2, 2, 2) + [2, 1] + singles(0.5, 0.5, 0.5, 0.5)
        corners = read(table(0, 2, 2, PLAIN, words), [(0, 0), (ONE, 0), (0, ONE), (ONE, ONE)])
        rows = results_of_points(before + load(text), [[[x, y, 0, 0]] + corners for x, y in points])
        self.assertEqual(told, [row[:4] for row in rows])


class NotThere(unittest.TestCase):
    def test_reads_the_same_everywhere(self):
        for unit in range(4):
            some = [(x, y) for x in (0, ONE, INF, NAN) for y in (0, MINUS, 0xFFFFFFFF)]
            self.assertEqual(read([], some, unit), [NOT_GIVEN] * len(some))

    def test_others_are_there(self):
        before = table(1, 1, 1, PLAIN, numbered(1, 1)) + table(3, 1, 1, MIXED, numbered(1, 1, 5))
        text = lines("TEX o0,v0,t0", "TEX o1,v0,t1", "TEX o2,v0,t2", "TEX o3,v0,t3")
        self.assertEqual(results(text, [0, 0, 0, 0], before=before), [NOT_GIVEN, place(1), NOT_GIVEN, place(5)])

    def test_taken_back_by_begin(self):
        before = table(0, 1, 1, PLAIN, numbered(1, 1)) + table(2, 1, 1, MIXED, numbered(1, 1)) + BEGIN
        self.assertEqual(read(before, [(0, 0)], 0), [NOT_GIVEN])
        self.assertEqual(read(before, [(0, 0)], 2), [NOT_GIVEN])


class TexOperands(unittest.TestCase):
    def test_parts_and_minus(self):
        before = table(0, 2, 2, PLAIN, numbered(2, 2))
        text = lines("TEX o0,v0,t0", "TEX o1,v0.y,t0", "TEX o2,v0.yxzw,t0", "TEX o3,-v0,t0")
        told = results(text, [ONE, 0, 0, 0], before=before)
        self.assertEqual(told, [place(2), place(1), place(3), place(1)])
        text = lines("MOV r0,v0", "TEX r0,r0.zwxx,t0", "MOV o0,r0", "TEX o1.yz,-v0.x,t0", "TEX_SAT o2,v0.w,t0")
        told = results(text, [SIGN | ONE, 0, 0, ONE], before=before)
        self.assertEqual(told[:3], [place(3), [0] + place(4)[1:3] + [0], [ONE] * 4])

    def test_z_and_w_are_not_asked(self):
        before = load("TEX o0,v0,t0") + table(0, 2, 2, MIXED, numbered(2, 2))
        told = results_of_points(before, [[[single(0.5), single(0.5), bits, bits]] for bits in (0, NAN, INF, ONE)])
        self.assertEqual([row[:4] for row in told], [place(2.5)] * 4)

    def test_a_table_loaded_behind_the_program(self):
        before = load("TEX o0,v0,t0") + table(0, 1, 1, PLAIN, numbered(1, 1, 3))
        self.assertEqual(results_of_points(before, [[[0] * 4]])[0][:4], place(3))


class Loaded(unittest.TestCase):
    def answers(self, *calls):
        return last_answer(table(*calls))

    def test_answers_0(self):
        for unit in range(4):
            for how in (PLAIN, MIXED):
                self.assertEqual(self.answers(unit, 2, 3, how, numbered(2, 3)), [0])
        self.assertEqual(self.answers(3, 7475, 1, 1, [0xFFFF] * 29900), [0])
        self.assertEqual(self.answers(0, 1, 7475, 0, [0] * 29900), [0])

    def test_unit(self):
        for unit in (4, 5, 256, 65536, GREATEST_NUMBER):
            self.assertEqual(self.answers(unit, 1, 1, 0, [0] * 4), [-1], unit)

    def test_how(self):
        for how in (2, 3, 256, GREATEST_NUMBER):
            self.assertEqual(self.answers(0, 1, 1, how, [0] * 4), [-1], how)

    def test_width_and_height(self):
        for w, h in ((0, 1), (1, 0), (0, 0), (0, GREATEST_NUMBER), (GREATEST_NUMBER, 0), (65537, 1), (1, 65537), (256, 257),
                     (257, 256), (GREATEST_NUMBER, 1), (1, GREATEST_NUMBER), (65536, 65536), (65536, 2), (2, 32769),
                     (GREATEST_NUMBER, GREATEST_NUMBER)):
            self.assertEqual(self.answers(0, w, h, 0, []), [-1], (w, h))

    def test_all_at_once(self):
        self.assertEqual(self.answers(GREATEST_NUMBER, GREATEST_NUMBER, GREATEST_NUMBER, GREATEST_NUMBER, []), [-1])

    def test_most_places(self):
        # More than the interface hands in, so asked of the machine itself.
        for w, h in ((256, 256), (65536, 1), (1, 65536), (32768, 2)):
            machine = Machine()
            halves = [place_number >> 8 * (part % 2) & 0xFF for place_number in range(65536) for part in range(4)]
            self.assertEqual(machine.table(2, w, h, PLAIN, halves), [0], (w, h))
            self.assertEqual(machine.table(2, w + 1, h, PLAIN, halves), [-1], (w, h))
            machine.load(list(b"TEX o0,v0,t2"))
            told = machine.run(1, 2, [0, 0, 0, 0, ONE, ONE, 0, 0])
            self.assertEqual(told[1:5], [0] * 4)
            self.assertEqual(told[17:21], [0x377F0000] * 4)

    def test_refused_and_the_one_before_stays(self):
        before = table(1, 2, 1, PLAIN, numbered(2, 1))
        refused = (table(1, 0, 1, 0, []) + table(1, 1, 0, 0, []) + table(1, 65537, 1, 0, []) + table(1, 1, 1, 2, [0] * 4)
                   + table(4, 1, 1, 0, [0] * 4) + table(GREATEST_NUMBER, 1, 1, 0, [0] * 4))
        self.assertEqual(read(before + refused, [(0, 0), (ONE, 0)], 1), [place(1), place(2)])
        self.assertEqual(read(refused, [(0, 0)], 1), [NOT_GIVEN])

    def test_over_another(self):
        before = table(1, 2, 2, MIXED, numbered(2, 2)) + table(1, 1, 3, PLAIN, numbered(1, 3, 20))
        self.assertEqual(read(before, [(0, 0), (ONE, single(0.5)), (ONE, ONE)], 1), [place(20), place(21), place(22)])
        before += table(2, 1, 1, PLAIN, numbered(1, 1, 50))
        self.assertEqual(read(before, [(0, 0)], 1) + read(before, [(0, 0)], 2), [place(20), place(50)])

    def test_program_and_constants_stay(self):
        before = [2, 5, 1, 2, 3, 4] + load("MOV o0,c5") + table(0, 1, 1, 0, [0] * 4)
        self.assertEqual(results_of_points(before, [[[0] * 4]])[0][:4], [1, 2, 3, 4])


if __name__ == "__main__":
    unittest.main()
