"""run: MOV, ABS, FLR, FRC, RCP, SQR, RSQ and HLF at what the document names."""

import unittest

from handing import GREATEST, INF, NAN, ONE, SIGN, Reckons, single

LEAST = 1
GREATEST_SMALL = 0x007FFFFF
LEAST_USUAL = 0x00800000
NO_NUMBERS = (NAN, 0x7F800001, 0x7FFFFFFF, 0xFF800001, 0xFFC00000, 0xFFFFFFFF)
NUMBERS = (0, SIGN, LEAST, SIGN | LEAST, GREATEST_SMALL, LEAST_USUAL, ONE, SIGN | ONE, single(-2.5), GREATEST,
           SIGN | GREATEST, INF, SIGN | INF)


class BitsAsTheyAre(Reckons, unittest.TestCase):
    def test_mov(self):
        self.gives("MOV", *[(a, a) for a in NUMBERS + NO_NUMBERS])

    def test_abs(self):
        self.gives("ABS", *[(a, a & 0x7FFFFFFF) for a in NUMBERS + NO_NUMBERS])


class NoNumber(Reckons, unittest.TestCase):
    def test_every_other_name_gives_the_same_bits(self):
        for name in ("FLR", "FRC", "RCP", "SQR", "RSQ", "HLF"):
            self.gives(name, *[(a, NAN) for a in NO_NUMBERS])


class Floor(Reckons, unittest.TestCase):
    def test_ordinary(self):
        rows = ((1.0, 1.0), (1.5, 1.0), (2.75, 2.0), (-1.0, -1.0), (-1.5, -2.0), (-2.25, -3.0), (100.125, 100.0))
        self.gives("FLR", *[(single(a), single(told)) for a, told in rows])

    def test_zeros(self):
        self.gives("FLR", (0, 0), (SIGN, SIGN))

    def test_between_minus_one_and_one(self):
        minus_one = SIGN | ONE
        self.gives("FLR", (LEAST, 0), (GREATEST_SMALL, 0), (single(0.5), 0), (ONE - 1, 0))
        self.gives("FLR", (SIGN | LEAST, minus_one), (SIGN | GREATEST_SMALL, minus_one), (single(-0.5), minus_one),
                   ((SIGN | ONE) - 1, minus_one), ((SIGN | ONE) + 1, single(-2.0)))

    def test_great(self):
        # From 2^23 on every single is whole; just below it there are halves.
        self.gives("FLR", (single(8388607.5), single(8388607.0)), (single(-8388607.5), single(-8388608.0)),
                   (single(8388609.0), single(8388609.0)), (single(-16777216.0), single(-16777216.0)),
                   (single(4194303.75), single(4194303.0)), (single(-4194303.25), single(-4194304.0)))
        self.gives("FLR", (GREATEST, GREATEST), (SIGN | GREATEST, SIGN | GREATEST), (0x5F000001, 0x5F000001),
                   (INF, INF), (SIGN | INF, SIGN | INF))


class Fraction(Reckons, unittest.TestCase):
    def test_ordinary(self):
        rows = ((1.25, 0.25), (0.75, 0.75), (-1.25, 0.75), (-0.25, 0.75), (3.0, 0.0), (-3.0, 0.0))
        self.gives("FRC", *[(single(a), single(told)) for a, told in rows])

    def test_edges(self):
        # Of a little less than 0 the rest is rounded up to 1; of whole numbers it's 0 without a sign.
        self.gives("FRC", (0, 0), (SIGN, 0), (LEAST, LEAST), (SIGN | LEAST, ONE), (0xB3000000, ONE),
                   (0xB3000001, ONE - 1), (GREATEST, 0), (SIGN | GREATEST, 0), (INF, NAN), (SIGN | INF, NAN))


class OneBy(Reckons, unittest.TestCase):
    def test_ordinary(self):
        self.gives("RCP", *[(single(a), single(1 / a)) for a in (1.0, 2.0, -4.0, 0.5, -0.125)])
        self.gives("RCP", (single(3.0), 0x3EAAAAAB), (single(-3.0), 0xBEAAAAAB), (single(10.0), 0x3DCCCCCD))

    def test_edges(self):
        self.gives("RCP", (0, INF), (SIGN, SIGN | INF), (INF, 0), (SIGN | INF, SIGN))
        self.gives("RCP", (LEAST, INF), (SIGN | LEAST, SIGN | INF), (0x00200000, INF), (0x00200001, 0x7F7FFFF8),
                   (GREATEST, 0x00200000), (single(2.0 ** 126), LEAST_USUAL), (single(2.0 ** 127), 0x00400000))


class Root(Reckons, unittest.TestCase):
    def test_ordinary(self):
        self.gives("SQR", *[(single(a * a), single(a)) for a in (1.0, 2.0, 1.5, 0.25, 4095.0, 3.0)])
        self.gives("SQR", (single(2.0), 0x3FB504F3), (single(3.0), 0x3FDDB3D7), (single(0.5), 0x3F3504F3))

    def test_edges(self):
        self.gives("SQR", (0, 0), (SIGN, SIGN), (INF, INF), (SIGN | INF, NAN), (SIGN | LEAST, NAN),
                   (single(-1.0), NAN), (SIGN | GREATEST, NAN))
        self.gives("SQR", (LEAST, 0x1A3504F3), (2, 0x1A800000), (GREATEST_SMALL, 0x1FFFFFFF),
                   (LEAST_USUAL, 0x20000000), (GREATEST, 0x5F7FFFFF), (ONE - 1, ONE - 1), (ONE + 1, ONE))


class OneByRoot(Reckons, unittest.TestCase):
    def test_ordinary(self):
        self.gives("RSQ", (ONE, ONE), (single(4.0), single(0.5)), (single(0.25), single(2.0)))

    def test_root_is_rounded_first(self):
        # Rounded but once these would be 3ED105ECH and 3EC1848FH.
        self.gives("RSQ", (single(6.0), 0x3ED105EB), (single(7.0), 0x3EC18490), (single(2.0), 0x3F3504F3))

    def test_edges(self):
        self.gives("RSQ", (0, INF), (SIGN, SIGN | INF), (INF, 0), (SIGN | INF, NAN), (single(-4.0), NAN),
                   (SIGN | LEAST, NAN), (LEAST, 0x64B504F3), (GREATEST, 0x1F800001))


class ThroughHalf(Reckons, unittest.TestCase):
    def test_kept(self):
        for number in (1.0, -2.5, 65504.0, -65504.0, 2.0 ** -14, 2.0 ** -24, -(2.0 ** -24), 1023 * 2.0 ** -24):
            self.gives("HLF", (single(number), single(number)))
        self.gives("HLF", (0, 0), (SIGN, SIGN), (INF, INF), (SIGN | INF, SIGN | INF))

    def test_ties(self):
        step = 2.0 ** -10
        self.gives("HLF", (single(1 + step / 2), ONE), (single(1 + step * 1.5), single(1 + step * 2)),
                   (single(-1 - step / 2), SIGN | ONE), (single(1 + step / 2) + 1, single(1 + step)),
                   (single(1 + step * 1.5) - 1, single(1 + step)))

    def test_past_the_greatest(self):
        self.gives("HLF", (single(65519.0), single(65504.0)), (single(65520.0) - 1, single(65504.0)),
                   (single(65520.0), INF), (single(-65520.0), SIGN | INF), (GREATEST, INF), (SIGN | GREATEST, SIGN | INF))

    def test_below_the_least(self):
        least = 2.0 ** -24
        self.gives("HLF", (single(least / 2), 0), (single(-least / 2), SIGN), (single(least / 2) + 1, single(least)),
                   (single(least * 1.5), single(least * 2)), (single(least * 2.5), single(least * 2)),
                   (LEAST, 0), (SIGN | LEAST, SIGN), (single(1023.5 * least), single(2.0 ** -14)))


if __name__ == "__main__":
    unittest.main()
