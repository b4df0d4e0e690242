"""run: points, what is answered for them, and refusals."""

import unittest

from fourfloats.machine import Machine
from fourfloats.points import answers
from handing import (BEGIN, GREATEST_NUMBER, INF, NAN, NOT_GIVEN, ONE, SIGN, ZEROS, constant, last_answer, lines, load,
                     results, results_of_points, run, run_halves, single, singles, table)

A = [11, 12, 13, 14]
B = [21, 22, 23, 24]
MINUS_ONE = SIGN | ONE
NOTHING = [0] * 16
ALL_FOUR = lines("MOV o0,v0", "MOV o1,v1", "MOV o2,v2", "MOV o3,v7")


class Answered(unittest.TestCase):
    def test_kept_then_results_then_kepts(self):
        calls = load(lines("KIL v0", "MOV o0,v0", "MOV o3,v1"))
        floats = A + B + [MINUS_ONE, 0, 0, 0] + B + B + A
        told = answers(calls + run(2, 3, floats))
        self.assertEqual(told, [1, 3, 52, 2] + A + ZEROS * 2 + B + NOTHING + B + ZEROS * 2 + A + [1, 0, 1])

    def test_sixteen_numbers_in_order(self):
        told = last_answer(load(lines("MOV o3,v3", "MOV o2,v2", "MOV o1,v1", "MOV o0,v0")) + run(4, 1, range(1, 17)))
        self.assertEqual(told, [1] + list(range(1, 17)) + [1])

    def test_bits_as_they_are(self):
        floats = [0x7F800001, 0xFFFFFFFF, SIGN, 1, NAN, 0xFFC00000, INF, SIGN | INF]
        told = last_answer(load(lines("MOV o0,v0", "MOV o1,v1")) + run(2, 1, floats))
        self.assertEqual(told, [1] + floats + [0] * 8 + [1])

    def test_all_left_out(self):
        told = last_answer(load(lines("MOV o0,v0", "KIL v0.x")) + run(1, 3, [MINUS_ONE, 1, 2, 3] * 3))
        self.assertEqual(told, [0] + NOTHING * 3 + [0] * 3)

    def test_none_left_out(self):
        told = last_answer(load("KIL v0.x") + run(1, 3, [ONE, 1, 2, 3] * 3))
        self.assertEqual(told, [3] + NOTHING * 3 + [1] * 3)

    def test_some_left_out(self):
        floats = []
        for k in range(20):
            floats += singles(-1 if k % 3 == 0 else 1, k, 0, 0)
        told = last_answer(load(lines("MOV o1,v0", "KIL v0")) + run(1, 20, floats))
        expected = [0 if k % 3 == 0 else 1 for k in range(20)]
        self.assertEqual(told[0], 13)
        self.assertEqual(told[1 + 16 * 20:], expected)
        for k in range(20):
            row = NOTHING if k % 3 == 0 else ZEROS + floats[4 * k:4 * k + 4] + ZEROS * 2
            self.assertEqual(told[1 + 16 * k:17 + 16 * k], row)

    def test_empty_program(self):
        self.assertEqual(last_answer(load("") + run(1, 2, A + B)), [2] + NOTHING * 2 + [1, 1])

    def test_whole_numbers_alone(self):
        told = answers(load(lines("KIL v0", "SLT o0,v0,v1")) + run(1, 2, A + [MINUS_ONE] * 4) + run(9, 0))
        self.assertEqual({type(number) for number in told}, {int})


class Vectors(unittest.TestCase):
    def test_not_given(self):
        for per in range(9):
            point = [[100 * k + part for part in range(1, 5)] for k in range(per)]
            for k in range(8):
                expected = point[k] if k < per else NOT_GIVEN
                self.assertEqual(results(f"MOV o0,v{k}", *point)[0], expected, (per, k))

    def test_each_point_has_its_own(self):
        for per in (1, 3, 8):
            numbers = list(range(1, 4 * per * 5 + 1))
            for k in range(per):
                told = last_answer(load(f"MOV o2,v{k}") + run(per, 5, numbers))
                for point in range(5):
                    start = 4 * (per * point + k)
                    self.assertEqual(told[9 + 16 * point:13 + 16 * point], numbers[start:start + 4])

    def test_none_given(self):
        told = last_answer(load(ALL_FOUR) + run(0, 3))
        self.assertEqual(told, [3] + NOT_GIVEN * 12 + [1] * 3)


class ByItself(unittest.TestCase):
    def test_what_one_point_writes_the_next_does_not_find(self):
        text = lines("IF v0.x", "MOV r0,v0", "MOV r15,v0", "MOV o1,v0", "MOV o3.y,v0", "END", "MOV o0,r0", "ADD o2,r15,r0")
        told = results_of_points(load(text), [[singles(2, 3, 4, 5)], [ZEROS], [singles(2, 3, 4, 5)], [[MINUS_ONE] * 4]])
        full = singles(2, 3, 4, 5)
        first = full + full + singles(4, 6, 8, 10) + [0, single(3), 0, 0]
        self.assertEqual(told, [first, NOTHING, first, NOTHING])

    def test_same_points(self):
        text = lines("ADD r0,r0,v0", "KIL r0.y", "MOV o0,r0")
        one = singles(1, 2, 3, 4)
        out = singles(1, -2, 3, 4)
        told = results_of_points(load(text), [[one], [out], [one], [one], [out]])
        kept = one + ZEROS * 3
        self.assertEqual(told, [kept, None, kept, kept, None])

    def test_points_that_are_nearly_the_same(self):
        told = last_answer(load("MOV o0,v0") + run(1, 3, [0, 0, 0, 0, SIGN, 0, 0, 0, 0, 0, 0, SIGN]))
        self.assertEqual([told[1:5], told[17:21], told[33:37]], [[0, 0, 0, 0], [SIGN, 0, 0, 0], [0, 0, 0, SIGN]])

    def test_one_run_does_not_touch_the_next(self):
        calls = load(lines("ADD r0,r0,v0", "MOV o0,r0", "MOV o1,c0")) + constant(0, 1, 2, 3, 4)
        once = answers(calls + run(1, 1, [ONE] * 4))
        twice = answers(calls + run(1, 1, [ONE] * 4) * 3)
        self.assertEqual(twice, once + once[-19:] * 2)

    def test_constants_and_tables_between_runs(self):
        calls = load(lines("MOV o0,c1", "TEX o1,v0,t0")) + run(0, 1) + constant(1, 1, 2, 3, 4) + run(0, 1)
        calls += table(0, 1, 1, 0, [0x3C00] * 4) + run(0, 1) + constant(32, 9, 9, 9, 9) + run(0, 1)
        told = answers(calls)
        rows = [[1, 2], [18, 1] + ZEROS + NOT_GIVEN + ZEROS * 2 + [1], [1, 0],
                [18, 1] + [1, 2, 3, 4] + NOT_GIVEN + ZEROS * 2 + [1], [1, 0],
                [18, 1] + [1, 2, 3, 4] + [ONE] * 4 + ZEROS * 2 + [1], [1, -1],
                [18, 1] + [1, 2, 3, 4] + [ONE] * 4 + ZEROS * 2 + [1]]
        self.assertEqual(told, [number for row in rows for number in row])


class Programs(unittest.TestCase):
    def test_loaded_anew(self):
        calls = load("MOV o0,v0") + run(1, 1, A) + load("MOV o1,v0.x") + run(1, 1, A)
        self.assertEqual(answers(calls), [1, 1, 18, 1] + A + ZEROS * 3 + [1] + [1, 1, 18, 1] + ZEROS + [11] * 4
                         + ZEROS * 2 + [1])
        self.assertEqual(last_answer(load("MOV o0,v0") + load("") + run(1, 1, A)), [1] + NOTHING + [1])

    def test_load_refused(self):
        too_many_steps = lines("REP 255", "REP 255", "MOV o0,v1", "END", "END")
        for text in ("MOV o0,v1\nMOV", "IF v0.x", "END", too_many_steps):
            self.assertEqual(last_answer(load("MOV o0,v0") + load(text) + run(1, 1, A)), [1] + A + ZEROS * 3 + [1])
            self.assertEqual(last_answer(load(text) + run(1, 1, A)), [-2])
            self.assertEqual(last_answer(load("") + load(text) + run(1, 1, A)), [1] + NOTHING + [1])

    def test_begin(self):
        calls = load("MOV o0,c0") + constant(0, 1, 2, 3, 4) + table(1, 1, 1, 0, [0x3C00] * 4) + BEGIN
        self.assertEqual(last_answer(calls + run(0, 1)), [-2])
        text = lines("MOV o0,c0", "TEX o1,v0,t1", "MOV o2,c31")
        self.assertEqual(last_answer(calls + load(text) + run(0, 1)), [1] + ZEROS + NOT_GIVEN + ZEROS * 2 + [1])
        self.assertEqual(last_answer(load(text) + run(0, 1)), [1] + ZEROS + NOT_GIVEN + ZEROS * 2 + [1])


class Refused(unittest.TestCase):
    def test_per(self):
        for call in (run, run_halves):
            for per in (9, 10, 256, 65536, GREATEST_NUMBER):
                for n in (0, 1, 65536):
                    self.assertEqual(answers(load("") + call(per, n)), [1, 0, 1, -1], (per, n))

    def test_n(self):
        for call in (run, run_halves):
            for n in (65537, 65538, 131072, GREATEST_NUMBER):
                for per in (0, 1, 8):
                    self.assertEqual(answers(load("") + call(per, n)), [1, 0, 1, -1], (per, n))
            self.assertEqual(answers(load("") + call(GREATEST_NUMBER, GREATEST_NUMBER)), [1, 0, 1, -1])

    def test_without_a_program(self):
        for call in (run, run_halves):
            for calls in (call(0, 0), call(0, 1), call(8, 0), call(1, 2, A + B), call(8, 1, A * 8), call(0, 65536)):
                self.assertEqual(answers(calls), [1, -2])
                self.assertEqual(answers(load("") + BEGIN + calls), [1, 0, 1, 0, 1, -2])

    def test_minus_one_comes_first(self):
        for call in (run, run_halves):
            for calls in (call(9, 0), call(0, 65537), call(9, 65537), call(GREATEST_NUMBER, GREATEST_NUMBER)):
                self.assertEqual(answers(calls), [1, -1])
                self.assertEqual(answers(load("END") + calls), [2, -2, 1, 1, -1])

    def test_nothing_is_changed(self):
        calls = load("MOV o0,c0") + constant(0, 1, 2, 3, 4) + run(9, 1) + run_halves(0, 65537) + run(0, 1)
        self.assertEqual(last_answer(calls), [1, 1, 2, 3, 4] + [0] * 12 + [1])


class Ends(unittest.TestCase):
    def test_no_points(self):
        for call in (run, run_halves):
            for per in (0, 1, 8):
                self.assertEqual(answers(load("KIL -v0") + call(per, 0)), [1, 1, 1, 0])

    def test_eight_vectors(self):
        numbers = list(range(1, 65))
        told = last_answer(load(lines("MOV o0,v0", "MOV o1,v6", "MOV o2,v7")) + run(8, 2, numbers))
        self.assertEqual(told, [2, 1, 2, 3, 4, 25, 26, 27, 28, 29, 30, 31, 32, 0, 0, 0, 0,
                                33, 34, 35, 36, 57, 58, 59, 60, 61, 62, 63, 64, 0, 0, 0, 0, 1, 1])

    def test_most_points_that_are_given(self):
        numbers = list(range(29900))
        told = last_answer(load("MOV o3,v0") + run(1, 7475, numbers))
        self.assertEqual(told[0], 7475)
        self.assertEqual(told[13:17], [0, 1, 2, 3])
        self.assertEqual(told[16 * 7475 - 3:16 * 7475 + 1], [29896, 29897, 29898, 29899])
        self.assertEqual(told[1 + 16 * 7475:], [1] * 7475)

    def test_many_points_with_a_long_program(self):
        # Near the most numbers that are answered, each point with near the most instructions.
        text = lines("REP 255", "REP 127", "ADD r0,r0,v0", "END", "END", "MOV o0,r0")
        told = answers(load(text) + run(0, 58000))
        self.assertEqual(told[:4], [1, 6, 986001, 58000])
        self.assertEqual(told[4:-58000], ([0, 0, 0, single(255.0 * 127)] + [0] * 12) * 58000)
        self.assertEqual(told[-58000:], [1] * 58000)

    def test_most_points(self):
        # These have more numbers than the interface answers, so the machine itself is asked.
        machine = Machine()
        machine.load(list(b"MOV o1,v3"))
        told = machine.run(0, 65536, [])
        self.assertEqual(told, [65536] + (ZEROS + NOT_GIVEN + ZEROS * 2) * 65536 + [1] * 65536)
        self.assertEqual(machine.run(0, 65537, []), [-1])
        self.assertEqual(machine.run_halves(0, 65536, [])[:9], [65536, 0, 0, 0, 0, 0, 0, 0, 0x3C00])
        self.assertEqual(machine.run_halves(0, 65537, []), [-1])


if __name__ == "__main__":
    unittest.main()
