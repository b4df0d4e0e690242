"""run: vectors taken and written, _SAT, and what was never written."""

import unittest

from handing import GREATEST, INF, NAN, ONE, SIGN, ZEROS, Reckons, constant, lines, results, single, singles

MINUS = SIGN | INF
A = [11, 12, 13, 14]
B = [21, 22, 23, 24]
NO_NUMBERS = (NAN, 0x7F800001, 0x7FFFFFFF, 0xFF800001, 0xFFC00000, 0xFFFFFFFF)


class Taken(unittest.TestCase):
    def test_parts(self):
        told = results(lines("MOV o0,v0", "MOV o1,v0.y", "MOV o2,v0.wzyx", "MOV o3,v0.xxww"), A)
        self.assertEqual(told, [A, [12] * 4, [14, 13, 12, 11], [11, 11, 14, 14]])
        told = results(lines("MOV o0,v0.x", "MOV o1,v0.z", "MOV o2,v0.w", "MOV o3,v0.xyzw"), A)
        self.assertEqual(told, [[11] * 4, [13] * 4, [14] * 4, A])

    def test_minus_flips_the_sign_of_any_bits(self):
        for bits in (0, SIGN, 1, ONE, INF, MINUS) + NO_NUMBERS:
            told = results(lines("MOV o0,-v0", "MOV o1,-v0.wxyz", "ABS o2,-v0", "MIN o3,-v0,-v0"), [bits, 1, 2, 3])
            flipped = bits ^ SIGN
            self.assertEqual(told[0], [flipped, SIGN | 1, SIGN | 2, SIGN | 3])
            self.assertEqual(told[1], [SIGN | 3, flipped, SIGN | 1, SIGN | 2])
            self.assertEqual(told[2], [bits & 0x7FFFFFFF, 1, 2, 3])
            self.assertEqual(told[3][0], flipped)

    def test_minus_of_each_operand(self):
        a = singles(1, -2, 3, -4)
        b = singles(-5, 6, 7, -8)
        told = results(lines("MAD o0,-v0,v1,-v1", "SUB o1,-v0,-v1", "CMP o2,-v0,-v1,v1", "DP3 o3,-v0,v1"), a, b)
        self.assertEqual(told, [singles(10, 6, -28, -24), singles(-6, 8, 4, -4), singles(5, 6, -7, -8),
                                singles(-4, -4, -4, -4)])
        told = results(lines("MAD o0,v0,-v1,v0", "CMP o1,v0,v1,-v1", "DP4 o2,v0,-v1", "XPD o3,-v0,-v1"), a, b)
        self.assertEqual(told, [singles(6, 10, -18, -36), singles(5, 6, -7, -8), singles(-36, -36, -36, -36),
                                singles(-32, -22, -4, 1)])

    def test_parts_in_names_of_vectors(self):
        told = results(lines("DP3 o0,v0.w,v1.wzyx", "DP4 o1,v0.xxxx,v1", "XPD o2,v0.yzxw,v1.yzxw", "KIL v0.x"),
                       singles(1, 2, 3, 4), singles(5, 6, 8, 9))
        self.assertEqual(told, [singles(92, 92, 92, 92), singles(28, 28, 28, 28), singles(7, -4, -2, 1), ZEROS])

    def test_every_vector(self):
        point = [[100 * k + part for part in range(4)] for k in range(1, 9)]
        for k in range(8):
            self.assertEqual(results(f"MOV o0,v{k}", *point)[0], point[k])
        before = []
        for k in range(32):
            before += constant(k, 4 * k, 4 * k + 1, 4 * k + 2, 0xFFFFFFFF - k)
        for k in range(32):
            told = results(f"MOV o3,c{k}", before=before)
            self.assertEqual(told, [ZEROS, ZEROS, ZEROS, [4 * k, 4 * k + 1, 4 * k + 2, 0xFFFFFFFF - k]])
        for k in range(16):
            others = [j for j in range(16) if j != k]
            rows = [f"MOV r{j},v1" for j in others] + [f"MOV r{k},v0"] + [f"MOV r{j},v1" for j in others]
            self.assertEqual(results(lines(*rows, f"MOV o1,r{k}"), A, B), [ZEROS, A, ZEROS, ZEROS])

    def test_constants_bit_for_bit(self):
        before = constant(0, 0x7F800001, 0xFFFFFFFF, SIGN, 1) + constant(0, 0xFF800001, NAN, SIGN, 2)
        self.assertEqual(results("MOV o0,c0", before=before)[0], [0xFF800001, NAN, SIGN, 2])


class Written(unittest.TestCase):
    def test_some_parts_and_the_others_stay(self):
        for many in range(1, 16):
            letters = "".join("xyzw"[part] for part in range(4) if many >> part & 1)
            expected = [B[part] if many >> part & 1 else A[part] for part in range(4)]
            text = lines("MOV r1,v0", f"MOV r1.{letters},v1", "MOV o0,r1", "MOV o1,v0", f"MOV o1.{letters},v1",
                         f"MOV o2.{letters},v1")
            told = results(text, A, B)
            self.assertEqual(told[:2], [expected, expected], letters)
            self.assertEqual(told[2], [B[part] if many >> part & 1 else 0 for part in range(4)], letters)

    def test_some_parts_of_every_name(self):
        a = singles(1, 2, 3, 4)
        b = singles(5, 6, 8, 9)
        told = results(lines("ADD o0.yw,v0,v1", "DP3 o1.z,v0,v1", "XPD o2.xw,v0,v1", "TEX o3.w,v0,t0"), a, b)
        self.assertEqual(told, [singles(0, 8, 0, 13), singles(0, 0, 41, 0), singles(-2, 0, 0, 1), [0, 0, 0, ONE]])
        told = results(lines("MAD o0.x,v0,v1,v1", "CMP o1.yz,-v0,v1,v0", "XPD o2.yz,v0,v1", "SQR o3.w,v0"), a, b)
        self.assertEqual(told, [singles(10, 0, 0, 0), singles(0, 6, 8, 0), singles(0, 7, -4, 0), singles(0, 0, 0, 2)])

    def test_read_and_written_by_the_same_instruction(self):
        a = singles(1, 2, 3, 4)
        b = singles(5, 6, 8, 9)
        self.assertEqual(results(lines("MOV r0,v0", "MOV r0,r0.wxyz", "MOV o0,r0"), A)[0], [14, 11, 12, 13])
        self.assertEqual(results(lines("MOV r0,v0", "MOV r0.xy,r0.yxzw", "MOV o0,r0"), A)[0], [12, 11, 13, 14])
        self.assertEqual(results(lines("MOV r0,v0", "ADD r0,r0.x,r0.yxwz", "MOV o0,r0"), a)[0], singles(3, 2, 5, 4))
        self.assertEqual(results(lines("MOV r0,v0", "MAD r0,r0,r0.wzyx,-r0", "MOV o0,r0"), a)[0], singles(3, 4, 3, 0))
        self.assertEqual(results(lines("MOV r0,v0", "XPD r0,r0,v1", "MOV o0,r0"), a, b)[0], singles(-2, 7, -4, 1))
        self.assertEqual(results(lines("MOV r0,v0", "DP4 r0.yz,r0,r0", "MOV o0,r0"), a)[0], singles(1, 30, 30, 4))

    def test_later_one_counts(self):
        self.assertEqual(results(lines("MOV o0,v0", "MOV o0.x,v1", "MOV o0,v1.w"), A, B)[0], [24] * 4)

    def test_never_written(self):
        self.assertEqual(results("MOV r0,v0", A), [ZEROS] * 4)
        self.assertEqual(results("MOV o2,v0", A), [ZEROS, ZEROS, A, ZEROS])
        for k in range(16):
            self.assertEqual(results(lines("MOV o0,v0", f"MOV o0,r{k}"), A)[0], ZEROS)

    def test_empty_program(self):
        self.assertEqual(results("", A), [ZEROS] * 4)
        self.assertEqual(results("# nothing\n\n   "), [ZEROS] * 4)


class Saturated(Reckons, unittest.TestCase):
    def test_mov(self):
        self.gives("MOV_SAT", (single(0.25), single(0.25)), (ONE, ONE), (ONE - 1, ONE - 1), (ONE + 1, ONE),
                   (single(7.0), ONE), (GREATEST, ONE), (INF, ONE), (1, 1), (0x7FFFFF, 0x7FFFFF))
        self.gives("MOV_SAT", (0, 0), (SIGN, 0), (SIGN | 1, 0), (single(-0.5), 0), (SIGN | GREATEST, 0), (MINUS, 0))
        self.gives("MOV_SAT", *[(a, 0) for a in NO_NUMBERS])

    def test_other_names(self):
        self.gives("ADD_SAT", (ONE, ONE, ONE), (ONE, single(-0.75), single(0.25)), (INF, MINUS, 0), (0, single(-2.0), 0))
        self.gives("RCP_SAT", (single(4.0), single(0.25)), (0, ONE), (SIGN, 0), (MINUS, 0))
        self.gives("MAD_SAT", tuple(singles(2, 3, -5, 1)), tuple(singles(2, 3, -5.5, 0.5)), tuple(singles(2, 3, -7, 0)))
        self.gives("SLT_SAT", (0, ONE, ONE), (ONE, 0, 0))
        self.gives("CMP_SAT", (MINUS, single(3.0), 0, ONE), (ONE, 0, NAN, 0))
        self.gives("ABS_SAT", (single(-3.0), ONE), (single(-0.5), single(0.5)), (0xFFC00000, 0))

    def test_names_of_vectors(self):
        told = results(lines("DP3_SAT o0,v0,v1", "DP4_SAT o1,v0,v1", "XPD_SAT o2,v0,v1", "TEX_SAT o3,v0,t1"),
                       singles(0.5, 0.25, 0, -3), singles(0.5, 0.5, 4, 1))
        self.assertEqual(told, [singles(0.375, 0.375, 0.375, 0.375), ZEROS, singles(1, 0, 0.125, 1), [0, 0, 0, ONE]])

    def test_only_parts_written(self):
        told = results(lines("MOV r0,v0", "MOV_SAT r0.yw,r0", "MOV o0,r0", "MOV_SAT o1.x,v0"), singles(3, 3, -3, -3))
        self.assertEqual(told[:2], [singles(3, 1, -3, 0), singles(1, 0, 0, 0)])


if __name__ == "__main__":
    unittest.main()
