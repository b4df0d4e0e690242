"""The interface: how calls are handed in and answers given back."""

import contextlib
import io
import unittest

from fourfloats.points import UnknownCall, answers
from handing import BEGIN, constant, lines, load, run, run_halves, table


class Answers(unittest.TestCase):
    def test_empty_list(self):
        self.assertEqual(answers([]), [])

    def test_each_call_by_itself(self):
        self.assertEqual(answers(BEGIN), [1, 0])
        self.assertEqual(answers(load("MOV r0,v0")), [1, 1])
        self.assertEqual(answers(constant(0, 1, 2, 3, 4)), [1, 0])
        self.assertEqual(answers(table(0, 1, 1, 0, [1, 2, 3, 4])), [1, 0])
        self.assertEqual(answers(run(1, 1, [1, 2, 3, 4])), [1, -2])
        self.assertEqual(answers(run_halves(1, 1, [1, 2, 3, 4])), [1, -2])

    def test_calls_one_behind_another(self):
        calls = (BEGIN + load("MOV r0,v0\nMOV o0,r0") + constant(3, 0, 1, 2, 3) + load("") + BEGIN
                 + load("KIL v0") + constant(4, 2, 1, 0, 1) + BEGIN)
        self.assertEqual(answers(calls), [1, 0, 1, 2, 1, 0, 1, 0, 1, 0, 1, 1, 1, 0, 1, 0])

    def test_refusals_among_calls(self):
        too_long = lines("REP 255", "REP 255", "MOV r0,v0", "END", "END")
        calls = load("MOV r0") + constant(32, 0, 0, 0, 0) + load("END") + load(too_long) + load("MOV r0,r1")
        self.assertEqual(answers(calls), [2, -2, 1, 1, -1, 2, -2, 1, 1, -3, 1, 1])

    def test_numbers_of_a_row_are_not_calls(self):
        # A text of bytes 0, 1, 2 would be begin, load and constant outside its row.
        self.assertEqual(answers([1, 3, 0, 1, 2, 0]), [2, -2, 1, 1, 0])
        self.assertEqual(answers([1, 4, 35, 0, 1, 2, 2, 0, 1, 1, 1, 1, 0]), [1, 0, 1, 0, 1, 0])
        self.assertEqual(answers([3, 0, 1, 1, 0, 4, 0, 1, 2, 3, 4, 1, 1, 4, 0, 1, 2, 3, 5, 0, 0, 0, 0]),
                         [1, 0, 1, -2, 1, -2, 1, 0])
        # Rows of refused calls are passed over, too.
        self.assertEqual(answers([3, 4, 1, 1, 0, 4, 0, 1, 2, 3, 3, 0, 1, 1, 2, 4, 0, 1, 2, 3, 0]), [1, -1, 1, -1, 1, 0])

    def test_three_hundred_calls(self):
        self.assertEqual(answers(BEGIN * 300), [1, 0] * 300)
        self.assertEqual(answers(load("END") * 300), [2, -2, 1] * 300)
        self.assertEqual(answers(load("MOV o0,v0") + run(1, 1, [1, 2, 3, 4]) * 299),
                         [1, 1] + ([18, 1, 1, 2, 3, 4] + [0] * 12 + [1]) * 299)

    def test_longest_text(self):
        self.assertEqual(answers(load("#" * 29900) + BEGIN), [1, 0, 1, 0])
        self.assertEqual(answers(load("\n" * 29900)), [1, 0])
        self.assertEqual(answers(load("\n" * 29897 + "END")), [2, -2, 29898])

    def test_no_such_call(self):
        with self.assertRaises(UnknownCall):
            answers(BEGIN + [6])

    def test_handed_in_twice(self):
        calls = load("MOV r0,v0\nEND") + constant(1, 5, 6, 7, 8) + load("MOV o0,c1") + BEGIN + constant(99, 0, 0, 0, 0)
        before = list(calls)
        first = answers(calls)
        self.assertEqual(calls, before)
        self.assertEqual(answers(calls), first)
        self.assertEqual(calls, before)
        self.assertEqual(first, [2, -2, 2, 1, 0, 1, 1, 1, 0, 1, -1])

    def test_runs_handed_in_twice(self):
        calls = (table(0, 2, 1, 1, [1, 2, 3, 4, 5, 6, 7, 8]) + load(lines("KIL v0", "ADD r0,r0,c1", "TEX o0,r0,t0", "MOV o1,v0"))
                 + constant(1, 0x3F000000, 0, 0, 0) + run(1, 2, [1, 2, 3, 4, 0xBF800000, 0, 0, 0])
                 + run_halves(2, 1, [1, 2, 3, 4, 5, 6, 7, 0x7C01]) + table(0, 0, 1, 0, []) + run(9, 1) + run_halves(0, 0))
        before = list(calls)
        first = answers(calls)
        self.assertEqual(calls, before)
        self.assertEqual(answers(calls), first)
        self.assertEqual(calls, before)
        self.assertEqual(first[:6], [1, 0, 1, 4, 1, 0])
        # What one list leaves behind, another doesn't find.
        self.assertEqual(answers(run(0, 1)), [1, -2])
        self.assertEqual(answers(load(lines("TEX o0,v0,t0", "MOV o1,c1")) + run(0, 1)),
                         [1, 2, 18, 1, 0, 0, 0, 0x3F800000] + [0] * 12 + [1])

    def test_a_list_that_may_not_be_changed(self):
        class Kept(list):
            def changed(self, *numbers):
                raise AssertionError("the list handed in is changed")
            __setitem__ = __delitem__ = __iadd__ = append = extend = insert = pop = remove = clear = reverse = sort = changed

        calls = table(0, 1, 1, 0, [1, 2, 3, 4]) + load("MOV o0,v0") + run(1, 1, [1, 2, 3, 4]) + run_halves(1, 1, [1, 2, 3, 4])
        self.assertEqual(answers(Kept(calls)), answers(calls))

    def test_answers_are_a_new_list_of_whole_numbers(self):
        told = answers(BEGIN + load("") + constant(0, 0, 0, 0, 0) + load("x"))
        self.assertIs(type(told), list)
        self.assertEqual({type(number) for number in told}, {int})
        told.append(7)
        self.assertEqual(answers(BEGIN), [1, 0])

    def test_nothing_is_printed(self):
        out = io.StringIO()
        with contextlib.redirect_stdout(out), contextlib.redirect_stderr(out):
            answers(BEGIN + load("bad") + constant(0, 0, 0, 0, 0) + table(0, 1, 1, 1, [0] * 4) + run(0, 1)
                    + load(lines("TEX o0,v0,t0", "KIL -v0")) + run(0, 1) + run_halves(0, 1) + run(9, 0))
        self.assertEqual(out.getvalue(), "")


if __name__ == "__main__":
    unittest.main()
