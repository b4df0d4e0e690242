"""run: ADD, SUB, MUL, DIV, MIN, MAX, SLT and SGE at what the document names."""

import unittest

from handing import GREATEST, INF, NAN, ONE, SIGN, Reckons, single

LEAST = 1
LEAST_USUAL = 0x00800000
TWO = single(2.0)
NO_NUMBERS = (NAN, 0x7F800001, 0x7FFFFFFF, 0xFF800001, 0xFFC00000, 0xFFFFFFFF)
MINUS = SIGN | INF


def of_numbers(*rows):
    return [tuple(single(number) for number in row) for row in rows]


class NoNumber(Reckons, unittest.TestCase):
    def test_always_the_same_bits(self):
        for name in ("ADD", "SUB", "MUL", "DIV"):
            for other in (0, ONE, INF, MINUS, 0xFF800001):
                self.gives(name, *[(a, other, NAN) for a in NO_NUMBERS])
                self.gives(name, *[(other, a, NAN) for a in NO_NUMBERS])

    def test_made_of_numbers(self):
        self.gives("ADD", (INF, MINUS, NAN), (MINUS, INF, NAN))
        self.gives("SUB", (INF, INF, NAN), (MINUS, MINUS, NAN))
        self.gives("MUL", (0, INF, NAN), (INF, SIGN, NAN), (MINUS, 0, NAN))
        self.gives("DIV", (0, 0, NAN), (SIGN, 0, NAN), (0, SIGN, NAN), (SIGN, SIGN, NAN), (INF, INF, NAN),
                   (INF, MINUS, NAN), (MINUS, INF, NAN))


class Sums(Reckons, unittest.TestCase):
    def test_ordinary(self):
        self.gives("ADD", *of_numbers((1.0, 2.0, 3.0), (-1.5, 0.25, -1.25), (1e3, -1e3, 0.0), (0.0, 7.0, 7.0)))
        self.gives("SUB", *of_numbers((1.0, 2.0, -1.0), (-1.5, 0.25, -1.75), (3.0, -4.0, 7.0), (0.0, 7.0, -7.0)))

    def test_zeros(self):
        self.gives("ADD", (0, 0, 0), (0, SIGN, 0), (SIGN, 0, 0), (SIGN, SIGN, SIGN), (ONE, SIGN | ONE, 0),
                   (SIGN | ONE, ONE, 0))
        self.gives("SUB", (0, 0, 0), (0, SIGN, 0), (SIGN, 0, SIGN), (SIGN, SIGN, 0), (ONE, ONE, 0),
                   (SIGN | ONE, SIGN | ONE, 0))

    def test_halfway(self):
        half_step = single(2.0 ** -24)
        self.gives("ADD", (ONE, half_step, ONE), (ONE + 1, half_step, ONE + 2), (ONE, half_step + 1, ONE + 1),
                   (SIGN | ONE, SIGN | half_step, SIGN | ONE), (half_step, ONE + 1, ONE + 2))
        self.gives("SUB", (ONE, single(2.0 ** -25), ONE), (ONE, single(2.0 ** -25) + 1, ONE - 1),
                   (ONE - 1, single(2.0 ** -25), ONE - 2), (ONE + 1, half_step, ONE))

    def test_small(self):
        self.gives("ADD", (LEAST, LEAST, 2), (LEAST_USUAL - 1, LEAST, LEAST_USUAL), (ONE, LEAST, ONE))
        self.gives("SUB", (LEAST_USUAL, LEAST, LEAST_USUAL - 1), (LEAST, 2, SIGN | LEAST),
                   (LEAST_USUAL + 1, LEAST_USUAL, LEAST))

    def test_great(self):
        last_step = single(2.0 ** 104)
        self.gives("ADD", (GREATEST, GREATEST, INF), (SIGN | GREATEST, SIGN | GREATEST, MINUS),
                   (GREATEST, single(2.0 ** 103), INF), (GREATEST, single(2.0 ** 103) - 1, GREATEST),
                   (GREATEST, last_step, INF), (GREATEST, SIGN | GREATEST, 0))
        self.gives("ADD", (INF, INF, INF), (MINUS, MINUS, MINUS), (INF, SIGN | GREATEST, INF), (ONE, MINUS, MINUS))
        self.gives("SUB", (INF, MINUS, INF), (MINUS, INF, MINUS), (ONE, INF, MINUS), (INF, ONE, INF))


class Products(Reckons, unittest.TestCase):
    def test_ordinary(self):
        self.gives("MUL", *of_numbers((1.5, 2.0, 3.0), (-1.5, 0.25, -0.375), (-3.0, -4.0, 12.0)))

    def test_zeros_and_infinities(self):
        self.gives("MUL", (0, ONE, 0), (SIGN, ONE, SIGN), (0, SIGN | ONE, SIGN), (SIGN, SIGN, 0), (0, SIGN, SIGN))
        self.gives("MUL", (INF, ONE, INF), (INF, SIGN | ONE, MINUS), (MINUS, MINUS, INF), (INF, LEAST, INF))

    def test_halfway(self):
        # (1 + 2^-12)(1 + 2^-12) ends in 2^-24, a half of the last digit.
        self.gives("MUL", (single(1 + 2.0 ** -12), single(1 + 2.0 ** -12), single(1 + 2.0 ** -11)),
                   (single(1 + 2.0 ** -12), single(1 + 3 * 2.0 ** -12), single(1 + 2.0 ** -10 + 2.0 ** -22)))

    def test_past_the_ends(self):
        self.gives("MUL", (GREATEST, TWO, INF), (GREATEST, SIGN | TWO, MINUS), (GREATEST, ONE + 1, INF),
                   (single(2.0 ** 64), single(2.0 ** 63), single(2.0 ** 127)), (single(2.0 ** 64), single(2.0 ** 64), INF))
        self.gives("MUL", (LEAST, single(0.5), 0), (3, single(0.5), 2), (LEAST, single(0.75), LEAST),
                   (SIGN | LEAST, single(0.5), SIGN), (SIGN | LEAST, LEAST, SIGN), (LEAST_USUAL, single(0.5), 0x00400000),
                   (LEAST_USUAL + 1, single(0.5), 0x00400000), (LEAST_USUAL + 3, single(0.5), 0x00400002))


class Quotients(Reckons, unittest.TestCase):
    def test_ordinary(self):
        self.gives("DIV", *of_numbers((3.0, 2.0, 1.5), (-1.0, 4.0, -0.25), (-9.0, -3.0, 3.0)))
        self.gives("DIV", (ONE, single(3.0), 0x3EAAAAAB), (TWO, single(3.0), 0x3F2AAAAB), (ONE, single(-10.0), 0xBDCCCCCD))

    def test_by_zero(self):
        self.gives("DIV", (ONE, 0, INF), (ONE, SIGN, MINUS), (SIGN | ONE, 0, MINUS), (SIGN | ONE, SIGN, INF),
                   (INF, 0, INF), (INF, SIGN, MINUS), (LEAST, 0, INF))

    def test_zeros_and_infinities(self):
        self.gives("DIV", (0, ONE, 0), (SIGN, ONE, SIGN), (0, SIGN | ONE, SIGN), (ONE, INF, 0), (ONE, MINUS, SIGN),
                   (INF, ONE, INF), (MINUS, TWO, MINUS), (INF, SIGN | LEAST, MINUS), (0, INF, 0))

    def test_past_the_ends(self):
        self.gives("DIV", (GREATEST, single(0.5), INF), (GREATEST, SIGN | LEAST, MINUS), (LEAST, TWO, 0), (3, TWO, 2),
                   (SIGN | LEAST, TWO, SIGN), (LEAST, GREATEST, 0), (LEAST_USUAL, TWO, 0x00400000), (LEAST, LEAST, ONE),
                   (5, TWO, 2), (7, TWO, 4), (LEAST, ONE - 1, LEAST))


class LessAndGreater(Reckons, unittest.TestCase):
    def test_ordinary(self):
        rows = ((1.0, 2.0), (-1.0, 1.0), (-2.0, -1.0), (0.0, 3.0), (-3.0, 0.0), (1.0, 1.5))
        for less, more in rows:
            a = single(less)
            b = single(more)
            self.gives("MIN", (a, b, a), (b, a, a))
            self.gives("MAX", (a, b, b), (b, a, b))
            self.gives("SLT", (a, b, ONE), (b, a, 0), (a, a, 0), (b, b, 0))
            self.gives("SGE", (a, b, 0), (b, a, ONE), (a, a, ONE), (b, b, ONE))

    def test_edges_in_order(self):
        order = [MINUS, SIGN | GREATEST, SIGN | ONE, SIGN | LEAST_USUAL, SIGN | LEAST, 0, LEAST, LEAST_USUAL, ONE,
                 GREATEST, INF]
        for k, a in enumerate(order):
            for b in order[k + 1:]:
                self.gives("MIN", (a, b, a), (b, a, a))
                self.gives("MAX", (a, b, b), (b, a, b))
                self.gives("SLT", (a, b, ONE), (b, a, 0))
                self.gives("SGE", (a, b, 0), (b, a, ONE))

    def test_zeros(self):
        for name in ("MIN", "MAX"):
            self.gives(name, (0, SIGN, SIGN), (SIGN, 0, 0), (0, 0, 0), (SIGN, SIGN, SIGN))
        self.gives("SLT", (0, SIGN, 0), (SIGN, 0, 0))
        self.gives("SGE", (0, SIGN, ONE), (SIGN, 0, ONE))

    def test_no_number(self):
        for other in (0, SIGN, ONE, INF, MINUS, 0xFFABCDEF):
            for a in NO_NUMBERS:
                for name in ("MIN", "MAX"):
                    self.gives(name, (a, other, other), (other, a, a))
                for name in ("SLT", "SGE"):
                    self.gives(name, (a, other, 0), (other, a, 0), (a, a, 0))


if __name__ == "__main__":
    unittest.main()
