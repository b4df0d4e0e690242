"""run_halves: vectors given as halves, results rounded to halves."""

import unittest

from fourfloats.points import answers
from handing import (GREATEST, INF, NAN, ONE, SIGN, ZEROS, constant, half, last_answer, lines, load, run, run_halves, single,
                     singles, table)

HALF_ONE = 0x3C00
HALF_SIGN = 0x8000
HALF_INF = 0x7C00
HALF_NAN = 0x7E00
NOTHING = [0] * 16


def of_constant(*floats):
    """What is told in halves of singles that a program moves to its first result."""
    told = []
    for first in range(0, len(floats), 4):
        some = (list(floats[first:first + 4]) + ZEROS)[:4]
        told += last_answer(constant(0, *some) + load("MOV o0,c0") + run_halves(0, 1))[1:5]
    return told[:len(floats)]


class Given(unittest.TestCase):
    def test_exactly(self):
        """Taken apart by arithmetic: each half is what 2^-24 times a whole number is."""
        rows = ((0x0001, 1), (0x0002, 2), (0x03FF, 1023), (0x0400, 1024), (0x0401, 1025), (0x0800, 2048), (0x0801, 2050))
        for bits, number in rows:
            calls = constant(0, *singles(2.0 ** -24, number, 0, 0)) + load(lines(
                "MUL r0,c0.x,c0.y", "SUB o0,v0,r0", "SLT o1,v0,r0", "SLT o2,r0,v0", "ADD o3,v0,r0"))
            told = last_answer(calls + run_halves(1, 1, [bits] * 4))
            self.assertEqual(told[1:13], [0] * 12, hex(bits))
            self.assertEqual(told[13:17], [half(2 * number * 2.0 ** -24)] * 4, hex(bits))

    def test_every_half_comes_back(self):
        for first in range(0, 65536, 4096):
            halves = list(range(first, first + 4096))
            told = last_answer(load("MOV o0,v0") + run_halves(1, 1024, halves))
            got = [told[1 + 16 * k + part] for k in range(1024) for part in range(4)]
            expected = [HALF_NAN if bits & 0x7FFF > HALF_INF else bits for bits in halves]
            self.assertEqual(got, expected)

    def test_no_number_is_taken_as_the_same_bits(self):
        # In singles that's seen of a table's halves alone.
        for bits in (0x7C01, 0x7DFF, 0x7E00, 0x7E01, 0x7FFF, 0xFC01, 0xFE00, 0xFFFF):
            calls = table(0, 1, 1, 0, [bits] * 4) + load("TEX o0,v0,t0") + run(0, 1)
            self.assertEqual(last_answer(calls)[1:5], [NAN] * 4)
            self.assertEqual(last_answer(load("MOV o0,v0") + run_halves(1, 1, [bits] * 4))[1:5], [HALF_NAN] * 4)

    def test_small_infinite_and_signed(self):
        text = lines("SLT o0,v0,v1", "SGE o1,v0,v1", "ADD o2,v0,v1", "MUL o3,v0,v0")
        told = last_answer(load(text) + run_halves(2, 1, [HALF_INF, 0xFC00, 0x0001, 0x8001] + [0x7BFF, 0xFBFF, 0x0002, 0]))
        self.assertEqual(told, [1, 0, HALF_ONE, HALF_ONE, HALF_ONE, HALF_ONE, 0, 0, 0, HALF_INF, 0xFC00, 0x0003, 0x8001,
                                HALF_INF, HALF_INF, 0, 0, 1])

    def test_not_given(self):
        told = last_answer(load(lines("MOV o0,v0", "MOV o1,v1", "MOV o2,v2", "MOV o3,v7"))
                           + run_halves(1, 2, [1, 2, 3, 4, 5, 6, 7, 8]))
        missing = [0, 0, 0, HALF_ONE] * 3
        self.assertEqual(told, [2, 1, 2, 3, 4] + missing + [5, 6, 7, 8] + missing + [1, 1])

    def test_eight_vectors(self):
        halves = list(range(1, 65))
        told = last_answer(load(lines("MOV o0,v0", "MOV o3,v7")) + run_halves(8, 2, halves))
        self.assertEqual(told, [2] + halves[:4] + [0] * 8 + halves[28:32] + halves[32:36] + [0] * 8 + halves[60:] + [1, 1])


class Rounded(unittest.TestCase):
    def test_ordinary(self):
        numbers = (0.0, 1.0, -1.0, 0.5, 3.140625, -1000.0, 65504.0, -65504.0)
        self.assertEqual(of_constant(*singles(*numbers)), [half(number) for number in numbers])

    def test_singles_between(self):
        # 1/3 and 1/10 as singles are rounded to 3555H and 2E66H.
        self.assertEqual(of_constant(0x3EAAAAAB, 0x3DCCCCCD, 0xBEAAAAAB, 0x40490FDB), [0x3555, 0x2E66, 0xB555, 0x4248])

    def test_ties(self):
        step = 2.0 ** -10
        tie = single(1 + step / 2)
        next_tie = single(1 + step * 1.5)
        self.assertEqual(of_constant(tie, tie + 1, tie - 1, next_tie, next_tie + 1, next_tie - 1, SIGN | tie, SIGN | next_tie),
                         [HALF_ONE, HALF_ONE + 1, HALF_ONE, HALF_ONE + 2, HALF_ONE + 2, HALF_ONE + 1, 0xBC00, 0xBC02])

    def test_past_the_greatest(self):
        limit = single(65520.0)
        self.assertEqual(of_constant(limit - 1, limit, SIGN | limit - 1, SIGN | limit), [0x7BFF, HALF_INF, 0xFBFF, 0xFC00])
        self.assertEqual(of_constant(GREATEST, SIGN | GREATEST, INF, SIGN | INF), [HALF_INF, 0xFC00, HALF_INF, 0xFC00])

    def test_too_small_for_the_usual_form(self):
        least = 2.0 ** -24
        self.assertEqual(of_constant(*singles(least, 1.5 * least, 2.5 * least, 1023.5 * least)), [1, 2, 2, 0x0400])
        self.assertEqual(of_constant(*singles(1022.5 * least, -3 * least, 1024 * least, 1023 * least)),
                         [0x03FE, 0x8003, 0x0400, 0x03FF])

    def test_below_the_least(self):
        tie = single(2.0 ** -25)
        self.assertEqual(of_constant(tie, tie + 1, SIGN | tie, SIGN | tie + 1), [0, 1, HALF_SIGN, 0x8001])
        self.assertEqual(of_constant(1, SIGN | 1, 0, SIGN), [0, HALF_SIGN, 0, HALF_SIGN])

    def test_no_number(self):
        self.assertEqual(of_constant(NAN, 0x7F800001, 0xFF800001, 0xFFFFFFFF), [HALF_NAN] * 4)
        told = last_answer(load(lines("SUB o0,v0,v0", "MOV o1,-v0", "RCP o2,r0", "SQR o3,-v1.w"))
                           + run_halves(1, 1, [HALF_INF, 0xFC00, 0x7E00, 0xFFFF]))
        self.assertEqual(told, [1] + [HALF_NAN] * 4 + [0xFC00, HALF_INF, HALF_NAN, HALF_NAN] + [HALF_INF] * 4
                         + [HALF_NAN] * 4 + [1])

    def test_only_at_the_end(self):
        # Within the program they're singles: 2048 + 1 is kept there, and 65504 times 2 isn't past the greatest.
        text = lines("ADD r0,v0,v1", "SUB o0,r0,v0", "ADD r1,v0,v0", "SUB o1,r1,v0")
        told = last_answer(load(text) + run_halves(2, 1, [half(2048.0), 0x7BFF, 0, 0, HALF_ONE, HALF_ONE, 0, 0]))
        self.assertEqual(told[1:9], [HALF_ONE, HALF_ONE, 0, 0, half(2048.0), 0x7BFF, 0, 0])

    def test_rounded_once(self):
        # The single 1 + 2^-11 is a tie and goes to 1, though the sum before it was rounded was above the tie.
        told = last_answer(constant(0, *singles(2.0 ** -11, 2.0 ** -30, 0, 0))
                           + load(lines("ADD r0,c0.x,v0", "ADD o0,r0,c0.y", "ADD o1,r0,v7.x")) + run_halves(1, 1, [HALF_ONE] * 4))
        self.assertEqual(told[1:9], [HALF_ONE] * 8)


class Answered(unittest.TestCase):
    def test_left_out(self):
        text = lines("MOV o0,v0", "KIL v0", "MOV o2,v0")
        halves = [1, 2, 3, 4] + [0x8001, 0, 0, 0] + [0x8000, 0, 0, 0] + [0, 0, 0, 0xFC00] + [0, 0, 0, 0xFE00]
        told = answers(load(text) + run_halves(1, 5, halves))
        self.assertEqual(told, [1, 3, 86, 3] + [1, 2, 3, 4, 0, 0, 0, 0] * 2 + NOTHING + [HALF_SIGN] + [0] * 7
                         + [HALF_SIGN] + [0] * 7 + NOTHING + ([0, 0, 0, HALF_NAN] + ZEROS) * 2 + [1, 0, 1, 0, 1])

    def test_runs_of_both_kinds(self):
        calls = load("MOV o0,v0") + run_halves(1, 1, [HALF_ONE, 1, HALF_INF, 0x7C01])
        calls += run(1, 1, [0x3C00, 1, 0x7C00, 0x7C01]) + run_halves(1, 1, [HALF_ONE, 1, HALF_INF, 0x7C01])
        of_halves = [18, 1, HALF_ONE, 1, HALF_INF, HALF_NAN] + [0] * 12 + [1]
        self.assertEqual(answers(calls), [1, 1] + of_halves + [18, 1, 0x3C00, 1, 0x7C00, 0x7C01] + [0] * 12 + [1] + of_halves)

    def test_singles_of_not_given_vectors(self):
        told = last_answer(load(lines("SUB o0,v3.w,c0.x", "MOV o1,v3")) + constant(0, ONE, 0, 0, 0) + run_halves(0, 2))
        self.assertEqual(told, [2] + ([0] * 4 + [0, 0, 0, HALF_ONE] + [0] * 8) * 2 + [1, 1])


if __name__ == "__main__":
    unittest.main()
