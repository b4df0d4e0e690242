"""Every name at many singles, against exact fractions rounded by search among the neighbours."""

import itertools
import math
import random
import struct
import unittest
from fractions import Fraction

from handing import GREATEST, INF, NAN, ONE, SIGN, load, part_by_part, results_of_points, singles

# 0 and -0, small ones, 1 and its neighbours, halves of whole numbers, great ones, infinities, no numbers.
EDGES = [0, 1, 2, 3, 0x7FFFFF, 0x800000, 0x800001, 0x00FFFFFF, 0x01000001, 0x1FFFFFFF, 0x20000000, 0x33000000,
         0x33800001, 0x387FE000, 0x3EAAAAAB, 0x3F000000, 0x3F7FFFFF, ONE, 0x3F800001, 0x3FC00000, 0x40400000,
         0x477FEFFF, 0x4B000001, 0x4B7FFFFF, 0x4B800001, 0x5F000003, 0x7E800000, 0x7F000001, GREATEST, INF, NAN,
         0x7F800001, 0x7FFFFFFF]
EDGES = EDGES + [bits | SIGN for bits in EDGES]
FEW = [0, SIGN, 1, SIGN | 0x7FFFFF, 0x00800001, 0x3F7FFFFF, SIGN | ONE, 0x3F800001, 0x40400000, SIGN | 0x4B800001,
       0x7F000001, SIGN | GREATEST, INF, SIGN | INF, NAN, 0xFF800001]


def is_nan(a):
    return a & 0x7FFFFFFF > INF


def worth(a):
    """What a single is worth; infinities as if they were the next ones behind the greatest."""
    place = a >> 23 & 0xFF
    digits = a & 0x7FFFFF
    number = Fraction(digits, 2 ** 149) if place == 0 else Fraction(digits + 2 ** 23) * Fraction(2) ** (place - 150)
    return -number if a & SIGN else number


def near(fraction):
    """The single without a sign next to a fraction above 0."""
    try:
        first = struct.unpack(">I", struct.pack(">f", float(fraction)))[0]
    except OverflowError:
        first = INF
    candidates = [bits for bits in (first - 1, first, first + 1) if 0 <= bits <= INF]
    return min(candidates, key=lambda bits: (abs(worth(bits) - fraction), bits & 1))


def nearest(fraction, sign_of_zero):
    if fraction == 0:
        return sign_of_zero
    return SIGN | near(-fraction) if fraction < 0 else near(fraction)


def ordinary(*singles_taken):
    return all(a & INF != INF for a in singles_taken)


def as_float(a):
    return struct.unpack(">f", struct.pack(">I", a))[0]


def of_float(number):
    return NAN if number != number else struct.unpack(">I", struct.pack(">f", number))[0]


def add(a, b):
    if ordinary(a, b):
        return nearest(worth(a) + worth(b), a & b & SIGN)
    return of_float(as_float(a) + as_float(b))


def sub(a, b):
    return add(a, b ^ SIGN)


def mul(a, b):
    if ordinary(a, b):
        return nearest(worth(a) * worth(b), (a ^ b) & SIGN) | (a ^ b) & SIGN
    return of_float(as_float(a) * as_float(b))


def div(a, b):
    sign = (a ^ b) & SIGN
    if is_nan(a) or is_nan(b):
        return NAN
    if b & 0x7FFFFFFF == 0:
        return NAN if a & 0x7FFFFFFF == 0 else sign | INF
    if ordinary(a, b):
        return nearest(worth(a) / worth(b), sign) | sign
    return of_float(as_float(a) / as_float(b))


def mad(a, b, c):
    if ordinary(a, b, c):
        return nearest(worth(a) * worth(b) + worth(c), (a ^ b) & c & SIGN)
    if ordinary(a, b):
        return NAN if is_nan(c) else c
    return of_float(as_float(a) * as_float(b) + as_float(c))


def root(a):
    if a in (0, SIGN, INF):
        return a
    if a & SIGN or is_nan(a):
        return NAN
    first = of_float(math.sqrt(as_float(a)))
    # A root is never halfway between two singles, so the squares of the middles tell.
    for bits in (first - 1, first, first + 1):
        below = (worth(bits - 1) + worth(bits)) / 2
        above = (worth(bits) + worth(bits + 1)) / 2
        if below ** 2 < worth(a) < above ** 2:
            return bits
    raise AssertionError(hex(a))


def floor(a):
    if not ordinary(a) or a == SIGN:
        return NAN if is_nan(a) else a
    return nearest(Fraction(math.floor(worth(a))), 0)


def through_half(a):
    if is_nan(a):
        return NAN
    try:
        return of_float(struct.unpack(">e", struct.pack(">e", as_float(a)))[0])
    except OverflowError:
        return a & SIGN | INF


def less(a, b):
    return as_float(a) < as_float(b)


OF_ONE = {
    "MOV": lambda a: a,
    "ABS": lambda a: a & 0x7FFFFFFF,
    "FLR": floor,
    "FRC": lambda a: sub(a, floor(a)),
    "RCP": lambda a: div(ONE, a),
    "SQR": root,
    "RSQ": lambda a: div(ONE, root(a)),
    "HLF": through_half,
}
OF_TWO = {
    "ADD": add,
    "SUB": sub,
    "MUL": mul,
    "DIV": div,
    "MIN": lambda a, b: a if less(a, b) else b,
    "MAX": lambda a, b: a if less(b, a) else b,
    "SLT": lambda a, b: ONE if less(a, b) else 0,
    "SGE": lambda a, b: ONE if as_float(a) >= as_float(b) else 0,
}
OF_THREE = {
    "MAD": mad,
    "LRP": lambda a, b, c: mad(a, sub(b, c), c),
    "CMP": lambda a, b, c: b if less(a, 0) else c,
}


def dot(a, b, many):
    total = mul(a[0], b[0])
    for part in range(1, many):
        total = mad(a[part], b[part], total)
    return [total] * 4


def cross(a, b):
    return [mad(a[i], b[j], mul(a[j], b[i]) ^ SIGN) for i, j in ((1, 2), (2, 0), (0, 1))] + [ONE]


OF_VECTORS = {
    "DP3": lambda a, b: dot(a, b, 3),
    "DP4": lambda a, b: dot(a, b, 4),
    "XPD": cross,
}


def saturated(a):
    if is_nan(a) or as_float(a) <= 0:
        return 0
    return ONE if as_float(a) > 1 else a


class Reckoned(unittest.TestCase):
    def check(self, name, operation, rows):
        for row, got in zip(rows, part_by_part(name, rows)):
            self.assertEqual(hex(got), hex(operation(*row)), f"{name} {[hex(part) for part in row]}")

    def test_of_one_at_edges(self):
        for name, operation in OF_ONE.items():
            self.check(name, operation, [(a,) for a in EDGES])

    def test_of_two_at_edges(self):
        for name, operation in OF_TWO.items():
            self.check(name, operation, list(itertools.product(EDGES, EDGES)))

    def test_of_three_at_edges(self):
        for name, operation in OF_THREE.items():
            self.check(name, operation, list(itertools.product(FEW, FEW, FEW)))

    def test_saturated_at_edges(self):
        for name, operation in OF_ONE.items():
            self.check(name + "_SAT", lambda a: saturated(operation(a)), [(a,) for a in EDGES])
        for name, operation in OF_TWO.items():
            self.check(name + "_SAT", lambda a, b: saturated(operation(a, b)), list(itertools.product(FEW, FEW)))

    def test_any_singles(self):
        chance = random.Random(4)
        for names in (OF_ONE, OF_TWO, OF_THREE):
            for name, operation in names.items():
                many = operation.__code__.co_argcount
                self.check(name, operation, [[chance.getrandbits(32) for k in range(many)] for turn in range(200)])

    def test_singles_of_like_size(self):
        # Near one another sums cancel out, quotients are near 1 and products need all their digits.
        chance = random.Random(5)
        for names in (OF_ONE, OF_TWO, OF_THREE):
            for name, operation in names.items():
                many = operation.__code__.co_argcount
                rows = [[chance.getrandbits(1) << 31 | chance.randint(0x3E000000, 0x41000000) for k in range(many)]
                        for turn in range(200)]
                self.check(name, operation, rows)

    def test_vectors(self):
        chance = random.Random(6)

        def any_vector():
            like = [chance.getrandbits(1) << 31 | chance.randint(0x3F000000, 0x40800000) for k in range(4)]
            return [chance.choice(EDGES) if chance.random() < 0.2 else part for part in like]

        points = [[any_vector(), any_vector()] for turn in range(300)]
        points += [[[a] * 4, [b] * 4] for a in FEW for b in FEW]
        for name, operation in OF_VECTORS.items():
            told = results_of_points(load(f"{name} o0,v0,v1"), points)
            kept = results_of_points(load(f"{name}_SAT o0,v0,v1"), points)
            for (a, b), got, within in zip(points, told, kept):
                self.assertEqual(got[:4], operation(a, b), f"{name} {a} {b}")
                self.assertEqual(within[:4], [saturated(part) for part in got[:4]], f"{name}_SAT {a} {b}")

    def test_what_this_file_reckons_by(self):
        # The search among neighbours by itself: ties, the greatest, the least.
        self.assertEqual(near(1 + Fraction(1, 2 ** 24)), ONE)
        self.assertEqual(near(1 + Fraction(3, 2 ** 24)), ONE + 2)
        self.assertEqual(near(1 + Fraction(1, 2 ** 24) + Fraction(1, 2 ** 90)), ONE + 1)
        self.assertEqual(near(Fraction(2 ** 128 - 2 ** 103)), INF)
        self.assertEqual(near(Fraction(2 ** 128 - 2 ** 103) - Fraction(1, 2 ** 90)), GREATEST)
        self.assertEqual(near(Fraction(1, 2 ** 150)), 0)
        self.assertEqual(near(Fraction(3, 2 ** 150)), 2)
        self.assertEqual([of_float(number) for number in (1.0, -2.0)], singles(1.0, -2.0))


if __name__ == "__main__":
    unittest.main()
