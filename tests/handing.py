"""How the tests write down calls, as the numbers that answers takes."""

import struct

from fourfloats.points import answers

BEGIN = [0]

GREATEST_NUMBER = 4294967295

SIGN = 0x80000000
ONE = 0x3F800000
GREATEST = 0x7F7FFFFF
INF = 0x7F800000
NAN = 0x7FC00000
ZEROS = [0, 0, 0, 0]
NOT_GIVEN = [0, 0, 0, ONE]


def load(text):
    codes = list(text.encode("latin-1")) if isinstance(text, str) else list(text)
    return [1, len(codes)] + codes


def constant(k, x, y, z, w):
    return [2, k, x, y, z, w]


def table(unit, w, h, how, halves):
    return [3, unit, w, h, how, len(halves)] + list(halves)


def run(per, n, floats=()):
    return [4, per, n, len(floats)] + list(floats)


def run_halves(per, n, halves=()):
    return [5, per, n, len(halves)] + list(halves)


def single(number):
    """The bits of a number that is a single."""
    code = struct.pack(">f", number)
    assert struct.unpack(">f", code)[0] == number, number
    return struct.unpack(">I", code)[0]


def singles(*numbers):
    return [single(number) for number in numbers]


def half(number):
    code = struct.pack(">e", number)
    assert struct.unpack(">e", code)[0] == number, number
    return struct.unpack(">H", code)[0]


def last_answer(calls):
    """What the last call answers, without the count before it."""
    told = answers(calls)
    start = 0
    while start + 1 + told[start] < len(told):
        start += 1 + told[start]
    return told[start + 1:]


def results_of_points(calls, points):
    """The sixteen results of each point, or None where it's left out; a point is a list of vectors."""
    floats = [part for point in points for vector in point for part in vector]
    per = len(points[0])
    told = last_answer(calls + run(per, len(points), floats))
    assert len(told) == 1 + 17 * len(points), told
    kepts = told[1 + 16 * len(points):]
    assert told[0] == sum(kepts), told
    rows = [told[1 + 16 * k:17 + 16 * k] for k in range(len(points))]
    for row, kept in zip(rows, kepts):
        assert kept == 1 or (kept == 0 and row == [0] * 16), told
    return [row if kept else None for row, kept in zip(rows, kepts)]


def results(text, *vectors, before=()):
    """The four results of one point with these vectors."""
    row = results_of_points(list(before) + load(text), [list(vectors)])[0]
    return None if row is None else [row[k:k + 4] for k in (0, 4, 8, 12)]


def part_by_part(name, rows):
    """What a name gives of each row of operands, four rows a point, one a part."""
    many = len(rows[0])
    padded = list(rows) + [rows[0]] * (-len(rows) % 4)
    operands = ",".join(f"v{k}" for k in range(many))
    told = []
    most = 4 * (29000 // (4 * many))
    for first in range(0, len(padded), most):
        some = padded[first:first + most]
        points = [[[row[k] for row in some[i:i + 4]] for k in range(many)] for i in range(0, len(some), 4)]
        for row in results_of_points(load(f"{name} o0,{operands}"), points):
            told.extend(row[:4])
    return told[:len(rows)]


def lines(*rows):
    return "\n".join(rows)


def loaded(text):
    """What load answers by itself, without the count before it."""
    told = answers(load(text))
    assert told[0] == len(told) - 1, told
    return told[1:]


class Loads:
    """Checks for test cases about load."""

    def takes(self, text, many=1):
        self.assertEqual(loaded(text), [many], text)

    def refuses(self, text, line=1):
        self.assertEqual(loaded(text), [-2, line], text)

    def takes_alone(self, line):
        """The line is taken among others, and is one instruction."""
        self.takes(lines("MOV r0,v0", line, "MOV o0,r0"), 3)

    def refuses_alone(self, line):
        self.refuses(lines("MOV r0,v0", line, "MOV o0,r0"), 2)


class Reckons:
    """Checks for test cases about what a name gives."""

    def gives(self, name, *rows):
        """Each row is some operands, then what the name gives of them."""
        told = part_by_part(name, [row[:-1] for row in rows])
        for row, got in zip(rows, told):
            self.assertEqual(got, row[-1], f"{name} {[hex(part) for part in row]}: {hex(got)}")
