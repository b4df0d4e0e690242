"""load: what a line is, the table of names, and _SAT."""

import unittest

from handing import Loads, lines

OF_TWO = ("MOV", "ABS", "FLR", "FRC", "RCP", "SQR", "RSQ", "HLF")
OF_THREE = ("ADD", "SUB", "MUL", "DIV", "MIN", "MAX", "SLT", "SGE", "DP3", "DP4", "XPD")
OF_FOUR = ("MAD", "LRP", "CMP")
VECTORS = {2: "r1,v0", 3: "r1,v0,c0", 4: "r1,v0,c0,r2"}


class Lines(Loads, unittest.TestCase):
    def test_without_a_line(self):
        self.takes("", 0)

    def test_nothing_said(self):
        for text in ("\n", "\n\n\n", " ", "   \n  ", "#", "# MOV r0", "  # x\n#\n", "##"):
            self.takes(text, 0)

    def test_number_sign(self):
        self.takes_alone("MOV r0,v0# remark")
        self.takes_alone("MOV r0,v0 # remark, with # another")
        self.takes_alone("MOV r0,v0   #")
        self.takes("MOV r0,v0#\n#MOV r0\nKIL v0", 2)
        self.refuses_alone("MOV r0#,v0")
        self.refuses_alone("MO#V r0,v0")

    def test_any_byte_in_a_remark(self):
        every = [code for code in range(256) if code != 10]
        self.takes(list(b"KIL v0 #") + every + list(b"\nKIL v0"), 2)

    def test_blanks_at_both_ends(self):
        for line in (" MOV r0,v0", "MOV r0,v0 ", "     MOV r0,v0     ", "  MOV r0,v0 # x"):
            self.takes_alone(line)
        self.takes(lines("  REP 2  ", " END "), 2)

    def test_only_20h_is_a_blank(self):
        for code in (0, 9, 11, 12, 13, 28, 31, 127, 133, 160, 255):
            self.refuses([code])
            self.refuses(list(b"MOV r0,v0") + [code])
            self.refuses([code] + list(b"MOV r0,v0"))
            self.refuses(list(b"MOV") + [code] + list(b"r0,v0"))

    def test_only_0ah_ends_a_line(self):
        for code in (11, 12, 13, 28, 29, 30, 133):
            self.refuses(list(b"KIL v0") + [code] + list(b"KIL v0"))
            self.takes(list(b"#") + [code] + list(b"KIL v0"), 0)
        self.refuses("KIL v0\r\nKIL v0\r\n", 1)

    def test_one_blank_behind_the_name(self):
        for line in ("MOV  r0,v0", "MOVr0,v0", "MOV   r0,v0", "MOV,r0,v0", "REP  2", "IF  r0.x"):
            self.refuses_alone(line)

    def test_no_blank_within_operands(self):
        for line in ("MOV r0, v0", "MOV r0 ,v0", "MOV r0 v0", "MOV r 0,v0", "MOV r0,- v0", "MOV r0,v0 .x",
                     "MOV r0,v0. x", "MOV r0,v0 v0"):
            self.refuses_alone(line)

    def test_commas(self):
        for line in ("MOV r0", "MOV r0,", "MOV ,v0", "MOV ,", "MOV r0,,v0", "MOV r0,v0,", "MOV ,r0,v0", "MOV r0;v0"):
            self.refuses_alone(line)

    def test_first_bad_line_is_told(self):
        self.refuses("x", 1)
        self.refuses("\n\n# remark\n x \n\ny", 4)
        self.refuses("MOV r0,v0\nMOV r0,v0\nMOV r0\nMOV", 3)
        self.refuses("MOV r0,v0\nEND\nx", 2)
        self.refuses("MOV r0,v0\nx\nEND", 2)
        self.refuses("MOV r0,v0\n\n\n\nx", 5)

    def test_count_is_of_lines_that_say_something(self):
        self.takes(lines("", "MOV r0,v0", "# x", "   ", "KIL r0 # y", "REP 2", "END", ""), 4)


class Names(Loads, unittest.TestCase):
    def test_each_with_its_operands(self):
        for many, group in ((2, OF_TWO), (3, OF_THREE), (4, OF_FOUR)):
            for name in group:
                self.takes_alone(f"{name} {VECTORS[many]}")
        self.takes_alone("TEX r1,v0,t0")
        self.takes_alone("KIL v0")
        self.takes(lines("IF v0.x", "ELSE", "END"), 3)
        self.takes(lines("REP 7", "END"), 2)

    def test_each_with_another_number_of_operands(self):
        for right, group in ((2, OF_TWO), (3, OF_THREE), (4, OF_FOUR)):
            for name in group:
                self.refuses_alone(name)
                for many in range(1, 7):
                    if many != right:
                        self.refuses_alone(name + " " + ",".join(["r1"] * many))
        for line in ("TEX", "TEX r1", "TEX r1,v0", "TEX r1,v0,t0,t0", "TEX r1,v0,v0,t0", "KIL", "KIL r1,v0", "IF",
                     "IF r1.x,v0.x", "REP", "REP 2,2"):
            self.refuses_alone(line)

    def test_else_and_end_take_none(self):
        for line in ("ELSE r0", "ELSE r0.x", "ELSE 1", "ELSE ,"):
            self.refuses(lines("IF r0.x", line, "END"), 2)
        for line in ("END r0", "END 1", "END IF", "END ,"):
            self.refuses(lines("IF r0.x", "ELSE", line), 3)
            self.refuses(lines("REP 2", line), 2)

    def test_operands_of_another_kind(self):
        for line in ("MOV t0,v0", "MOV r0,t0", "MOV r0,1", "MOV 1,r0", "ADD r0,v0,t0", "TEX r0,v0,v0", "TEX r0,v0,0",
                     "TEX r0,t0,v0", "TEX t0,v0,t0", "KIL t0", "KIL 1", "IF 1", "IF t0", "REP r0", "REP r0.x", "REP t0",
                     "MAD r0,v0,c0,t0", "MAD r0,v0,c0,o0"):
            self.refuses_alone(line)

    def test_each_place_of_operands_is_read(self):
        for many, group in ((2, OF_TWO), (3, OF_THREE), (4, OF_FOUR)):
            for name in group:
                for place in range(many):
                    operands = VECTORS[many].split(",")
                    operands[place] = "v1" if place == 0 else "o1"
                    self.refuses_alone(name + " " + ",".join(operands))

    def test_no_names_of_the_table(self):
        for line in ("mov r0,v0", "Mov r0,v0", "MOVE r0,v0", "MO r0,v0", "NOP", "ENDIF", "EL", "DP2 r0,v0,v0", "_SAT",
                     "_SAT r0,v0", "M r0,v0", "MOV? r0,v0", "if r0.x", "Rep 2", "end", "d r0"):
            self.refuses_alone(line)


class Saturating(Loads, unittest.TestCase):
    def test_behind_names_that_write(self):
        for many, group in ((2, OF_TWO), (3, OF_THREE), (4, OF_FOUR)):
            for name in group:
                self.takes_alone(f"{name}_SAT {VECTORS[many]}")
                self.takes_alone(f"{name}_SAT o1.xw,{VECTORS[many][3:]}")
        self.takes_alone("TEX_SAT r1,v0,t0")

    def test_behind_names_that_write_none(self):
        self.refuses_alone("KIL_SAT v0")
        self.refuses_alone("IF_SAT v0.x")
        self.refuses_alone("REP_SAT 2")
        self.refuses(lines("IF v0.x", "ELSE_SAT", "END"), 2)
        self.refuses(lines("IF v0.x", "ELSE", "END_SAT"), 3)
        self.refuses(lines("REP 2", "END_SAT"), 2)

    def test_other_endings(self):
        for name in ("MOV_SAT_SAT", "MOV_sat", "MOV_", "MOV_SA", "MOVSAT", "MOV _SAT", "MOV_SATURATE", "_SATMOV",
                     "SAT_MOV", "MOV__SAT"):
            self.refuses_alone(f"{name} r0,v0")

    def test_operands_are_the_same(self):
        for line in ("MOV_SAT", "MOV_SAT r0", "MOV_SAT r0,v0,v0", "ADD_SAT r0,v0", "MOV_SAT v0,r0", "MOV_SAT  r0,v0"):
            self.refuses_alone(line)


if __name__ == "__main__":
    unittest.main()
