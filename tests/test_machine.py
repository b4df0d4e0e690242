"""What begin, constant, load and table keep and leave in the machine."""

import unittest

from fourfloats.listing import Listing
from fourfloats.machine import Machine
from fourfloats.points import answers
from handing import constant, lines

ZEROS = (0, 0, 0, 0)
GREATEST = 4294967295
MINUS_ONE = 0xBF800000
POINT = [1, 2, 3, 4]
MOVES = "MOV o0,v0\nKIL v0"


def codes(text):
    return list(text.encode("latin-1"))


def keeps_moves(machine):
    """Whether MOVES is the machine's program, as far as two runs tell."""
    moved = machine.run(1, 1, POINT) == [1] + POINT + [0] * 12 + [1]
    return moved and machine.run(1, 1, [MINUS_ONE] * 4) == [0] + [0] * 16 + [0]


class Begin(unittest.TestCase):
    def test_new_machine(self):
        machine = Machine()
        self.assertIsNone(machine.program)
        self.assertEqual(machine.constants, [ZEROS] * 32)
        self.assertEqual(machine.tables, [None] * 4)

    def test_begin_takes_all_back(self):
        machine = Machine()
        machine.load(codes("MOV r0,v0"))
        machine.constant(0, [1, 2, 3, 4])
        machine.constant(31, [5, 6, 7, 8])
        machine.table(0, 1, 1, 0, [1, 2, 3, 4])
        machine.table(3, 1, 1, 1, [1, 2, 3, 4])
        self.assertEqual(machine.begin(), [0])
        self.assertIsNone(machine.program)
        self.assertEqual(machine.constants, [ZEROS] * 32)
        self.assertEqual(machine.tables, [None] * 4)

    def test_machines_share_nothing(self):
        first = Machine()
        first.constant(2, [1, 1, 1, 1])
        first.load(codes("KIL v0"))
        first.table(2, 1, 1, 0, [1, 2, 3, 4])
        second = Machine()
        self.assertIsNone(second.program)
        self.assertEqual(second.constants, [ZEROS] * 32)
        self.assertEqual(second.tables, [None] * 4)


class Constant(unittest.TestCase):
    def test_first_and_last(self):
        machine = Machine()
        self.assertEqual(machine.constant(0, [1, 2, 3, 4]), [0])
        self.assertEqual(machine.constant(31, [5, 6, 7, 8]), [0])
        self.assertEqual(machine.constants, [(1, 2, 3, 4)] + [ZEROS] * 30 + [(5, 6, 7, 8)])

    def test_bit_for_bit(self):
        machine = Machine()
        # No numbers, a negative zero and the smallest float: none may be tidied up.
        for floats in ((0, GREATEST, 0, GREATEST), (0x7F800001, 0x80000000, 1, 0xFFC00000)):
            self.assertEqual(machine.constant(7, list(floats)), [0])
            self.assertEqual(machine.constants[7], floats)

    def test_again(self):
        machine = Machine()
        machine.constant(5, [1, 2, 3, 4])
        machine.constant(5, [9, 8, 7, 6])
        self.assertEqual(machine.constants[5], (9, 8, 7, 6))

    def test_past_the_last(self):
        machine = Machine()
        machine.constant(31, [5, 6, 7, 8])
        before = list(machine.constants)
        for k in (32, 33, 255, 256, GREATEST):
            self.assertEqual(machine.constant(k, [1, 1, 1, 1]), [-1], k)
        self.assertEqual(machine.constants, before)

    def test_handed_in(self):
        self.assertEqual(answers(constant(31, 0, GREATEST, 0, GREATEST)), [1, 0])
        self.assertEqual(answers(constant(32, 0, 0, 0, 0)), [1, -1])
        self.assertEqual(answers(constant(GREATEST, GREATEST, GREATEST, GREATEST, GREATEST)), [1, -1])

    def test_program_stays(self):
        machine = Machine()
        machine.load(codes(MOVES))
        machine.constant(0, [1, 2, 3, 4])
        machine.constant(32, [1, 2, 3, 4])
        self.assertTrue(keeps_moves(machine))


class Load(unittest.TestCase):
    def test_instructions(self):
        listing = Listing()
        text = lines("# remark", "REP 3", " ADD_SAT o1.xw,-r15.wzyx,c31.y", "", "TEX r2,v7,t3", "END")
        listing.take_text(codes(text))
        self.assertEqual(Machine().load(codes(text)), [4])
        told = [(each.name, each.saturates, each.operands) for each in listing.instructions]
        self.assertEqual(told, [
            ("REP", False, [3]),
            ("ADD", True, [("o", 1, (0, 3)), ("r", 15, (3, 2, 1, 0), True), ("c", 31, (1, 1, 1, 1), False)]),
            ("TEX", False, [("r", 2, (0, 1, 2, 3)), ("v", 7, (0, 1, 2, 3), False), 3]),
            ("END", False, []),
        ])

    def test_another_program_takes_the_place(self):
        machine = Machine()
        machine.load(codes("MOV o1,v0\nMOV o0,r0"))
        self.assertEqual(machine.load(codes(MOVES)), [2])
        self.assertTrue(keeps_moves(machine))

    def test_empty_text_is_a_program(self):
        machine = Machine()
        self.assertEqual(machine.load([]), [0])
        self.assertEqual(machine.program, [])

    def test_constants_and_tables_stay(self):
        machine = Machine()
        machine.constant(3, [1, 2, 3, 4])
        machine.table(1, 1, 1, 0, [1, 2, 3, 4])
        machine.load(codes("KIL v0"))
        machine.load(codes("KIL"))
        self.assertEqual(machine.constants[3], (1, 2, 3, 4))
        self.assertEqual([kept is None for kept in machine.tables], [True, False, True, True])

    def test_refused_and_the_program_stays(self):
        too_many_steps = lines("REP 255", "REP 255", "KIL v0", "END", "END")
        refused = (
            ("MOV r0,v0\nMOV", [-2, 2]),
            ("MOV r0,v0\nIF r0.x", [-2, 2]),
            ("\n".join(["KIL v0"] * 1025), [-2, 1025]),
            (too_many_steps, [-3]),
            ("#" * 65537, [-1]),
        )
        machine = Machine()
        for text, answer in refused:
            self.assertEqual(machine.load(codes(text)), answer)
            self.assertIsNone(machine.program)
        machine.load(codes(MOVES))
        for text, answer in refused:
            self.assertEqual(machine.load(codes(text)), answer)
            self.assertTrue(keeps_moves(machine))

    def test_most_bytes(self):
        # Longer than the interface hands in, so asked of the machine itself.
        machine = Machine()
        self.assertEqual(machine.load(codes("KIL v0#" + "x" * 65529)), [1])
        self.assertEqual(machine.load(codes("KIL v0#" + "x" * 65530)), [-1])

    def test_minus_one_comes_first(self):
        machine = Machine()
        self.assertEqual(machine.load(codes("END\n" + " " * 65532)), [-2, 1])
        self.assertEqual(machine.load(codes("END\n" + " " * 65533)), [-1])
        too_many_steps = lines("REP 255", "REP 255", "KIL v0", "END", "END", "#")
        self.assertEqual(machine.load(codes(too_many_steps + "x" * (65536 - len(too_many_steps)))), [-3])
        self.assertEqual(machine.load(codes(too_many_steps + "x" * (65537 - len(too_many_steps)))), [-1])


if __name__ == "__main__":
    unittest.main()
