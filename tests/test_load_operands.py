"""load: vectors taken, vectors written, tables, and REP's number."""

import itertools
import unittest

from handing import Loads, lines


class Taken(Loads, unittest.TestCase):
    def test_numbers(self):
        for letter, last in (("r", 15), ("v", 7), ("c", 31)):
            for number in range(last + 1):
                self.takes_alone(f"MOV r0,{letter}{number}")
            for number in (last + 1, last + 2, last + 10, 99, 100, 256, 4294967296, "9" * 5000):
                self.refuses_alone(f"MOV r0,{letter}{number}")

    def test_forms_of_numbers(self):
        for letter in "rvc":
            for number in ("", "00", "01", "07", "000", "0x1", "+1", "-1", "1_0", "1e0", "a", "?", "0?", "\xb2", "\xb9"):
                self.refuses_alone(f"MOV r0,{letter}{number}")

    def test_letters(self):
        for name in ("o0", "t0", "a0", "R0", "V0", "C0", "0", "x", "", "rr0", "0r"):
            self.refuses_alone(f"MOV r0,{name}")

    def test_minus(self):
        for vector in ("-r1", "-v7", "-c31", "-r1.x", "-v0.wzyx", "-c2.xxxx"):
            self.takes_alone(f"MOV r0,{vector}")
            self.takes_alone(f"ADD r0,{vector},{vector}")
            self.takes_alone(f"KIL {vector}")
        for vector in ("--r1", "-", "+r1", "r-1", "r1-", "r1.-x", "-o0", "-r16", "-1"):
            self.refuses_alone(f"MOV r0,{vector}")

    def test_one_part(self):
        for part in "xyzw":
            self.takes_alone(f"MOV r0,r1.{part}")

    def test_four_parts(self):
        for parts in itertools.product("xyzw", repeat=4):
            self.takes(f"MOV r0,c31.{''.join(parts)}")

    def test_other_numbers_of_parts(self):
        for parts in ("", "xy", "xx", "zw", "xyz", "xxx", "xyzwx", "xxxxx", "xyzwxyzw", "x" * 5000):
            self.refuses_alone(f"MOV r0,v0.{parts}")

    def test_other_letters_of_parts(self):
        for parts in ("a", "X", "r", "0", "xyzq", "rgba", "XYZW", "x.y", "x.", ".x", "xyz.", "x,y", "xyz?"):
            self.refuses_alone(f"MOV r0,v0.{parts}")


class Written(Loads, unittest.TestCase):
    def test_numbers(self):
        for letter, last in (("r", 15), ("o", 3)):
            for number in range(last + 1):
                self.takes_alone(f"MOV {letter}{number},v0")
            for number in (last + 1, last + 2, last + 10, 99, 100, 256, "9" * 5000):
                self.refuses_alone(f"MOV {letter}{number},v0")

    def test_forms_of_numbers(self):
        for letter in "ro":
            for number in ("", "00", "01", "03", "+1", "-1", "a"):
                self.refuses_alone(f"MOV {letter}{number},v0")

    def test_letters(self):
        for name in ("v0", "c0", "t0", "O0", "R0", "x", "0", "-r0", "-o0", "-r0.x"):
            self.refuses_alone(f"MOV {name},v0")

    def test_parts_in_order(self):
        for many in range(1, 5):
            for parts in itertools.combinations("xyzw", many):
                self.takes_alone(f"MOV r1.{''.join(parts)},v0")
                self.takes_alone(f"MOV o1.{''.join(parts)},v0")

    def test_parts_out_of_order(self):
        for many in range(2, 5):
            ordered = set(itertools.combinations("xyzw", many))
            for parts in itertools.permutations("xyzw", many):
                if parts not in ordered:
                    self.refuses(f"MOV r1.{''.join(parts)},v0")

    def test_parts_twice(self):
        for parts in ("xx", "yy", "xxy", "xyy", "xyzz", "xxxx", "xyx", "xyzww", "xyzwxyzw"):
            self.refuses_alone(f"MOV r1.{parts},v0")
            self.refuses_alone(f"MOV o1.{parts},v0")

    def test_other_parts(self):
        for parts in ("", "a", "X", "x.", ".x", "x.y", "xq", "r", "0"):
            self.refuses_alone(f"MOV r1.{parts},v0")


class Tables(Loads, unittest.TestCase):
    def test_numbers(self):
        for number in range(4):
            self.takes_alone(f"TEX r0,v0,t{number}")
        for number in (4, 5, 10, 99, "", "00", "01", "-1", "x"):
            self.refuses_alone(f"TEX r0,v0,t{number}")

    def test_forms(self):
        for table in ("-t0", "t0.x", "t0.xyzw", "T0", "tt0", "0", "r0", ""):
            self.refuses_alone(f"TEX r0,v0,{table}")

    def test_its_vectors(self):
        self.takes_alone("TEX o3.yw,-c31.wwzx,t1")
        self.refuses_alone("TEX o3.wy,c31,t1")
        self.refuses_alone("TEX o3,c31.xy,t1")


class OfIf(Loads, unittest.TestCase):
    def takes_if(self, vector):
        self.takes(lines(f"IF {vector}", "END"), 2)

    def refuses_if(self, vector):
        self.refuses(lines("", f"IF {vector}", "END"), 2)

    def test_one_part(self):
        for part in "xyzw":
            for vector in ("r1", "v7", "c31", "-r0", "-c0"):
                self.takes_if(f"{vector}.{part}")

    def test_four_parts(self):
        for parts in itertools.product("xyzw", repeat=4):
            vector = "r1." + "".join(parts)
            if len(set(parts)) == 1:
                self.takes_if(vector)
                self.takes_if("-" + vector)
            else:
                self.refuses_if(vector)

    def test_other_forms(self):
        for vector in ("r1", "-r1", "v0", "c0", "r1.", "r1.xx", "r1.xxx", "r1.xxxxx", "o0.x", "t0.x", "r16.x", "1"):
            self.refuses_if(vector)


class OfRep(Loads, unittest.TestCase):
    def test_ends(self):
        for number in (1, 2, 9, 10, 99, 100, 254, 255):
            self.takes(lines(f"REP {number}", "END"), 2)
        for number in (0, 256, 257, 300, 999, 1000, 65536, 4294967297, "9" * 5000):
            self.refuses(lines("", f"REP {number}", "END"), 2)

    def test_forms(self):
        for number in ("01", "001", "00", "0255", "-1", "+1", "1.0", "1.", "x", "0x1", "1_0", "\xb2"):
            self.refuses(lines("", f"REP {number}", "END"), 2)


if __name__ == "__main__":
    unittest.main()
