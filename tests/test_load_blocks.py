"""load: IF, ELSE, REP and END, and how many instructions there are and might be run."""

import unittest

from handing import Loads, lines, loaded

MOV = "MOV r0,v0"


class Blocks(Loads, unittest.TestCase):
    def test_belonging(self):
        self.takes(lines("IF r0.x", "END"), 2)
        self.takes(lines("IF r0.x", MOV, "ELSE", MOV, "END"), 5)
        self.takes(lines("REP 2", MOV, "END"), 3)
        self.takes(lines("IF r0.x", "REP 2", "END", "ELSE", "IF r0.y", "ELSE", "END", "END"), 8)
        self.takes(lines("REP 2", "IF r0.x", "ELSE", "END", "END", "IF r0.x", "ELSE", "END"), 8)

    def test_else_belongs_to_the_innermost(self):
        self.takes(lines("IF r0.x", "IF r0.y", "ELSE", "END", "ELSE", "END"), 6)
        self.takes(lines("IF r0.x", "ELSE", "IF r0.y", "ELSE", "END", "END"), 6)
        self.refuses(lines("IF r0.x", "IF r0.y", "ELSE", "ELSE", "END", "END"), 4)

    def test_end_of_nothing(self):
        self.refuses("END", 1)
        self.refuses(lines(MOV, "END"), 2)
        self.refuses(lines("IF r0.x", "END", "END"), 3)
        self.refuses(lines("REP 2", "END", "", "END", "END"), 4)
        self.refuses(lines("IF r0.x", "ELSE", "END", "END"), 4)

    def test_else_of_nothing(self):
        self.refuses("ELSE", 1)
        self.refuses(lines("ELSE", "END"), 1)
        self.refuses(lines("REP 2", "ELSE", "END"), 2)
        self.refuses(lines("IF r0.x", "REP 2", "ELSE", "END", "END"), 3)
        self.refuses(lines("IF r0.x", "END", "ELSE", "END"), 3)

    def test_second_else(self):
        self.refuses(lines("IF r0.x", "ELSE", "ELSE", "END"), 3)
        self.refuses(lines("IF r0.x", "ELSE", MOV, "IF r0.x", "ELSE", "END", "ELSE", "END"), 7)

    def test_still_open_at_the_end(self):
        self.refuses("IF r0.x", 1)
        self.refuses("REP 2", 1)
        self.refuses(lines("IF r0.x", "ELSE"), 2)
        self.refuses(lines("IF r0.x", MOV, MOV), 3)
        self.refuses(lines("REP 2", "IF r0.x", "END", MOV), 4)
        self.refuses(lines("REP 2", MOV, "", "# remark"), 4)

    def test_still_open_where_the_text_ends_in_a_line_feed(self):
        # Lines stand between line feeds: one more stands behind the last.
        self.refuses("REP 2\n", 2)
        self.refuses("REP 2\n\n\n", 4)

    def test_a_bad_line_comes_before_what_is_open(self):
        self.refuses(lines("REP 2", "x", MOV), 2)
        self.refuses(lines("IF r0.x", "ELSE", "ELSE", MOV, MOV), 3)

    def test_eight_open_at_once(self):
        for opener in ("IF r0.x", "REP 1"):
            self.takes(lines(*[opener] * 8, MOV, *["END"] * 8), 17)
            self.refuses(lines(*[opener] * 9, MOV, *["END"] * 9), 9)
        self.takes(lines(*["IF r0.x", "REP 1"] * 4, *["END"] * 8), 16)
        self.refuses(lines(*["IF r0.x", "REP 1"] * 4, "", "IF r0.x", *["END"] * 9), 10)
        self.refuses(lines(*["REP 1", "IF r0.x"] * 4, "# nine", "REP 1", *["END"] * 9), 10)

    def test_behind_else_is_within_the_same(self):
        inner = ["IF r0.x", "ELSE"] * 7
        self.takes(lines("IF r0.x", "ELSE", *inner, *["END"] * 8), 24)
        self.refuses(lines("IF r0.x", "ELSE", *inner, "IF r0.x", *["END"] * 9), 17)

    def test_ends_make_room(self):
        seven = ["REP 1"] * 7
        self.takes(lines(*seven, *["IF r0.x", "ELSE", "END"] * 20, *["END"] * 7), 74)
        self.takes(lines(*["REP 1", "END"] * 100), 200)


class Many(Loads, unittest.TestCase):
    def test_most_instructions(self):
        self.takes(lines(*[MOV] * 1024), 1024)
        self.refuses(lines(*[MOV] * 1025), 1025)
        self.refuses(lines(*[MOV] * 1030), 1025)

    def test_empty_lines_are_no_instructions(self):
        self.takes(lines("", *[MOV, "#"] * 1024, "", ""), 1024)
        self.refuses(lines("", *[MOV, "#"] * 1024, "", MOV), 2051)

    def test_every_instruction_counts(self):
        self.takes(lines(*["REP 1", "END"] * 512), 1024)
        self.takes(lines(*["IF r0.x", "ELSE", "END"] * 341, "KIL r0"), 1024)
        self.refuses(lines(*["REP 1", "END"] * 512, "KIL r0"), 1025)
        self.refuses(lines(*["IF r0.x", "ELSE", "END"] * 342), 1025)

    def test_first_of_several_faults(self):
        self.refuses(lines(*[MOV] * 1024, MOV, "x"), 1025)
        self.refuses(lines(*[MOV] * 1023, "x", MOV, MOV), 1024)
        self.refuses(lines("REP 1", *[MOV] * 1024, MOV), 1025)
        self.refuses(lines("REP 1", *[MOV] * 1023, ""), 1025)


class Steps(unittest.TestCase):
    def runs(self, *rows):
        self.assertEqual(loaded(lines(*rows)), [len(rows)])

    def runs_too_long(self, *rows):
        self.assertEqual(loaded(lines(*rows)), [-3])

    def test_one_rep(self):
        # 1 + 255 * (256 + 1) is 65536.
        self.runs("REP 255", *[MOV] * 256, "END")
        self.runs_too_long("REP 255", *[MOV] * 257, "END")
        self.runs_too_long("REP 255", *[MOV] * 256, "END", MOV)
        self.runs_too_long(MOV, "REP 255", *[MOV] * 256, "END")

    def test_rep_within_rep(self):
        # 1 + 255 * (1 + 255 * 1 + 1) is 65536.
        self.runs("REP 255", "REP 255", "END", "END")
        self.runs_too_long("REP 255", "REP 255", "END", "END", MOV)
        self.runs_too_long(MOV, "REP 255", "REP 255", "END", "END")
        self.runs_too_long("REP 255", MOV, "REP 255", "END", "END")
        self.runs_too_long("REP 255", "REP 255", MOV, "END", "END")
        self.runs_too_long("REP 255", "REP 255", "END", MOV, "END")
        self.runs_too_long("REP 255", "REP 255", "END", "END", "REP 1", "END")

    def test_three_deep(self):
        # 1 + 2 * (1 + 127 * (1 + 255 * 1 + 1) + 1) is 65283.
        three = ["REP 2", "REP 127", "REP 255", "END", "END", "END"]
        self.runs(*three, *[MOV] * 253)
        self.runs_too_long(*three, *[MOV] * 254)

    def test_eight_deep(self):
        self.runs(*["REP 1"] * 8, *["END"] * 8)
        self.runs_too_long(*["REP 4"] * 8, *["END"] * 8)
        self.runs_too_long(*["REP 255"] * 8, *["END"] * 8)
        # The REPs and ENDs are 13120; a line within d of the REPs counts 3 ** d times.
        filled = ["REP 3", "REP 3", MOV, "REP 3", "REP 3", MOV, MOV, "REP 3", MOV, MOV, "REP 3", MOV, MOV, "REP 3",
                  MOV, MOV, "REP 3", *[MOV] * 7, *["END"] * 8]
        self.runs(*filled)
        self.runs_too_long(*filled, MOV)

    def test_reps_behind_another_add_up(self):
        # 4 * (1 + 255 * (63 + 1)) is 65284.
        four = ["REP 255", *[MOV] * 63, "END"] * 4
        self.runs(*four, *[MOV] * 252)
        self.runs_too_long(*four, *[MOV] * 253)

    def test_both_sides_of_an_if_count(self):
        # 1 + 255 * (3 + 253 + 1) is 65536.
        self.runs("REP 255", "IF r0.x", *[MOV] * 100, "ELSE", *[MOV] * 153, "END", "END")
        self.runs_too_long("REP 255", "IF r0.x", *[MOV] * 101, "ELSE", *[MOV] * 153, "END", "END")
        self.runs_too_long("REP 255", "IF r0.x", *[MOV] * 100, "ELSE", *[MOV] * 154, "END", "END")
        self.runs("REP 255", "IF r0.x", *[MOV] * 254, "END", "END")
        self.runs_too_long("REP 255", "IF r0.x", *[MOV] * 255, "END", "END")

    def test_rep_within_an_if(self):
        self.runs("IF r0.x", "REP 255", *[MOV] * 255, "END", "END")
        # 3 + 255 * 256 + 252 + 1 is 65536.
        self.runs("IF r0.x", "ELSE", "REP 255", *[MOV] * 255, "END", *[MOV] * 252, "END")
        self.runs_too_long("IF r0.x", "ELSE", "REP 255", *[MOV] * 255, "END", *[MOV] * 253, "END")

    def test_a_kil_ends_nothing_here(self):
        self.runs_too_long("KIL c0", "REP 255", "REP 255", "END", "END")

    def test_minus_two_comes_first(self):
        long = ["REP 255", "REP 255", MOV, "END", "END"]
        self.assertEqual(loaded(lines(*long)), [-3])
        self.assertEqual(loaded(lines(*long, "END")), [-2, 6])
        self.assertEqual(loaded(lines(*long, "x")), [-2, 6])
        self.assertEqual(loaded(lines(*long, "REP 2", "")), [-2, 7])
        self.assertEqual(loaded(lines(*long[:-1])), [-2, 4])
        self.assertEqual(loaded(lines(*long, *[MOV] * 1020)), [-2, 1025])


if __name__ == "__main__":
    unittest.main()
