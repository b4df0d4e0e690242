"""run: MAD, LRP, CMP and the names of whole vectors, DP3, DP4 and XPD, at what the document names."""

import unittest

from handing import GREATEST, INF, NAN, ONE, SIGN, Reckons, results, single, singles

LEAST = 1
MINUS = SIGN | INF
TWO = single(2.0)
NO_NUMBERS = (NAN, 0x7F800001, 0x7FFFFFFF, 0xFF800001, 0xFFC00000, 0xFFFFFFFF)
# Its square is 1 + 2^-11 + 2^-24; what's rounded off that is the last term.
NEAR_ONE = 1 + 2.0 ** -12
SQUARE = 1 + 2.0 ** -11
ROUNDED_OFF = 2.0 ** -24


class ProductAndSum(Reckons, unittest.TestCase):
    def test_ordinary(self):
        self.gives("MAD", tuple(singles(2.0, 3.0, 4.0, 10.0)), tuple(singles(-0.5, 3.0, 1.0, -0.5)),
                   tuple(singles(0.0, 3.0, 4.0, 4.0)), tuple(singles(2.0, 3.0, 0.0, 6.0)))

    def test_rounded_once(self):
        self.gives("MAD", tuple(singles(NEAR_ONE, NEAR_ONE, -SQUARE, ROUNDED_OFF)),
                   tuple(singles(NEAR_ONE, -NEAR_ONE, SQUARE, -ROUNDED_OFF)))
        # Past the greatest, and halfway to the least, only on the way.
        self.gives("MAD", (GREATEST, TWO, SIGN | GREATEST, GREATEST), (LEAST, single(0.5), LEAST, 2),
                   (LEAST, LEAST, LEAST, LEAST), (LEAST, single(-0.5), LEAST, 0))
        # The little product settles what would be halfway.
        self.gives("MAD", (ONE, single(2.0 ** -24), ONE, ONE), (ONE, single(2.0 ** -24) + 1, ONE, ONE + 1),
                   (LEAST, LEAST, ONE, ONE), (SIGN | LEAST, LEAST, ONE, ONE), (LEAST, SIGN | LEAST, LEAST, LEAST))

    def test_zeros(self):
        self.gives("MAD", (0, ONE, 0, 0), (0, ONE, SIGN, 0), (SIGN, ONE, SIGN, SIGN), (SIGN, ONE, 0, 0),
                   (SIGN, SIGN, SIGN, 0), (ONE, ONE, SIGN | ONE, 0), (SIGN | ONE, ONE, ONE, 0),
                   (SIGN | LEAST, LEAST, 0, SIGN), (LEAST, LEAST, SIGN, 0))

    def test_infinities(self):
        self.gives("MAD", (GREATEST, GREATEST, 0, INF), (GREATEST, SIGN | GREATEST, ONE, MINUS),
                   (GREATEST, GREATEST, MINUS, MINUS), (ONE, ONE, INF, INF), (INF, ONE, ONE, INF), (INF, ONE, INF, INF),
                   (INF, SIGN | ONE, MINUS, MINUS))
        self.gives("MAD", (INF, ONE, MINUS, NAN), (INF, 0, ONE, NAN), (0, MINUS, INF, NAN), (SIGN, INF, 0, NAN))

    def test_no_number(self):
        for name in ("MAD", "LRP"):
            for a in NO_NUMBERS:
                self.gives(name, (a, ONE, ONE, NAN), (ONE, a, ONE, NAN), (ONE, ONE, a, NAN), (0, a, 0, NAN),
                           (INF, 0, a, NAN), (a, a, a, NAN), (ONE, ONE, a, NAN))


class Between(Reckons, unittest.TestCase):
    def test_ordinary(self):
        self.gives("LRP", tuple(singles(0.0, 8.0, 4.0, 4.0)), tuple(singles(1.0, 8.0, 4.0, 8.0)),
                   tuple(singles(0.25, 8.0, 4.0, 5.0)), tuple(singles(2.0, 8.0, 4.0, 12.0)),
                   tuple(singles(-1.0, 8.0, 4.0, 0.0)))

    def test_difference_is_rounded(self):
        # 1 + 2^-24 is rounded to 1.
        self.gives("LRP", tuple(singles(1.0, 1.0, -(2.0 ** -24), 1 - 2.0 ** -24)))
        self.gives("LRP", (0, GREATEST, SIGN | GREATEST, NAN), (single(0.5), GREATEST, SIGN | GREATEST, INF))

    def test_product_and_sum_are_rounded_once(self):
        self.gives("LRP", tuple(singles(NEAR_ONE, -(2.0 ** -12), -SQUARE, ROUNDED_OFF)))

    def test_edges(self):
        self.gives("LRP", (0, ONE, SIGN, 0), (0, SIGN | ONE, SIGN, SIGN), (ONE, SIGN, SIGN, 0), (0, INF, ONE, NAN),
                   (ONE, INF, ONE, INF), (ONE, ONE, INF, NAN), (SIGN | ONE, ONE, INF, INF), (INF, ONE, ONE, NAN),
                   (INF, TWO, ONE, INF), (INF, ONE, TWO, MINUS), (ONE, LEAST, 2, LEAST))


class Chosen(Reckons, unittest.TestCase):
    def test_less_than_0(self):
        for a in (single(-3.0), SIGN | LEAST, SIGN | GREATEST, MINUS):
            self.gives("CMP", (a, 5, 6, 5), (a, NAN, 0, NAN), (a, 0xFF800001, 0, 0xFF800001), (a, SIGN, 0, SIGN))

    def test_else(self):
        for a in (0, SIGN, LEAST, ONE, GREATEST, INF) + NO_NUMBERS:
            self.gives("CMP", (a, 5, 6, 6), (a, 0, NAN, NAN), (a, 0, 0xFF800001, 0xFF800001), (a, 0, SIGN, SIGN))


class Vectors(unittest.TestCase):
    def first_result(self, name, a, b):
        return results(f"{name} o0,v0,v1", a, b)[0]

    def test_dots(self):
        a = singles(1.0, 2.0, 3.0, 4.0)
        b = singles(5.0, -6.0, 7.0, 8.0)
        self.assertEqual(self.first_result("DP3", a, b), singles(14.0, 14.0, 14.0, 14.0))
        self.assertEqual(self.first_result("DP4", a, b), singles(46.0, 46.0, 46.0, 46.0))

    def test_dots_of_no_number(self):
        for bits in NO_NUMBERS:
            for part in range(4):
                a = [ONE] * 4
                a[part] = bits
                self.assertEqual(self.first_result("DP4", a, [ONE] * 4), [NAN] * 4)
                self.assertEqual(self.first_result("DP4", [ONE] * 4, a), [NAN] * 4)
                three = [single(3.0)] * 4 if part == 3 else [NAN] * 4
                self.assertEqual(self.first_result("DP3", a, [ONE] * 4), three)
        self.assertEqual(self.first_result("DP3", [INF, INF, 0, 0], [ONE, SIGN | ONE, 0, 0]), [NAN] * 4)
        self.assertEqual(self.first_result("DP3", [0, INF, 0, 0], [0, 0, 0, 0]), [NAN] * 4)

    def test_dots_round_the_first_product(self):
        for name in ("DP3", "DP4"):
            told = self.first_result(name, singles(NEAR_ONE, -SQUARE, 0, 0), singles(NEAR_ONE, 1, 0, 0))
            self.assertEqual(told, [0] * 4)

    def test_dots_round_the_next_ones_once(self):
        lost = [single(ROUNDED_OFF)] * 4
        for name in ("DP3", "DP4"):
            told = self.first_result(name, singles(-SQUARE, NEAR_ONE, 0, 0), singles(1, NEAR_ONE, 0, 0))
            self.assertEqual(told, lost)
            told = self.first_result(name, singles(0, -SQUARE, NEAR_ONE, 0), singles(0, 1, NEAR_ONE, 0))
            self.assertEqual(told, lost)
        told = self.first_result("DP4", singles(0, 0, -SQUARE, NEAR_ONE), singles(0, 0, 1, NEAR_ONE))
        self.assertEqual(told, lost)

    def test_dots_round_each_sum(self):
        # 1 + 2^-24 is rounded to 1 each time; together both little ones would make a step.
        step = 2.0 ** -24
        self.assertEqual(self.first_result("DP3", singles(1, step, step, 9), singles(1, 1, 1, 9)), [ONE] * 4)
        self.assertEqual(self.first_result("DP3", singles(step, step, 1, 9), singles(1, 1, 1, 9)), [ONE + 1] * 4)
        self.assertEqual(self.first_result("DP4", singles(0, 1, step, step), singles(1, 1, 1, 1)), [ONE] * 4)

    def test_dots_past_the_greatest(self):
        # The first product is an infinity by itself; a later one meets the sum before it's rounded.
        great = [GREATEST, SIGN | GREATEST, 0, 0]
        self.assertEqual(self.first_result("DP3", great, [TWO, ONE, 0, 0]), [INF] * 4)
        self.assertEqual(self.first_result("DP3", great, [ONE, TWO, 0, 0]), [SIGN | GREATEST] * 4)

    def test_dots_of_zeros(self):
        self.assertEqual(self.first_result("DP3", [SIGN] * 4, [ONE] * 4), [SIGN] * 4)
        self.assertEqual(self.first_result("DP3", [SIGN, 0, SIGN, SIGN], [ONE] * 4), [0] * 4)
        self.assertEqual(self.first_result("DP4", [SIGN, SIGN, SIGN, 0], [ONE] * 4), [0] * 4)

    def test_cross(self):
        a = singles(1.0, 2.0, 3.0, 9.0)
        b = singles(5.0, 6.0, 8.0, 9.0)
        self.assertEqual(self.first_result("XPD", a, b), singles(-2.0, 7.0, -4.0, 1.0))
        self.assertEqual(self.first_result("XPD", b, a), singles(2.0, -7.0, 4.0, 1.0))

    def test_cross_rounds_the_negated_product_alone(self):
        near = singles(NEAR_ONE, NEAR_ONE, NEAR_ONE, NEAR_ONE)
        lost = singles(ROUNDED_OFF, ROUNDED_OFF, ROUNDED_OFF, 1.0)
        self.assertEqual(self.first_result("XPD", near, near), lost)

    def test_cross_of_zeros_and_no_number(self):
        self.assertEqual(self.first_result("XPD", [0] * 4, [0] * 4), [0, 0, 0, ONE])
        self.assertEqual(self.first_result("XPD", [SIGN] * 4, [ONE] * 4), [0, 0, 0, ONE])
        told = self.first_result("XPD", [0xFF800001, ONE, ONE, ONE], [ONE, ONE, ONE, NAN])
        self.assertEqual(told, [0, NAN, NAN, ONE])
        told = self.first_result("XPD", [INF, ONE, ONE, ONE], [ONE, ONE, TWO, ONE])
        self.assertEqual(told, [ONE, MINUS, INF, ONE])


if __name__ == "__main__":
    unittest.main()
