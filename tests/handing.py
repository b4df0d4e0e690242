"""How the tests write down calls, as the numbers that answers takes."""

from fourfloats.points import answers

BEGIN = [0]


def load(text):
    codes = list(text.encode("latin-1")) if isinstance(text, str) else list(text)
    return [1, len(codes)] + codes


def constant(k, x, y, z, w):
    return [2, k, x, y, z, w]


def lines(*rows):
    return "\n".join(rows)


def loaded(text):
    """What load answers by itself, without the count before it."""
    told = answers(load(text))
    assert told[0] == len(told) - 1, told
    return told[1:]


class Loads:
    """Checks for test cases about load."""

    def takes(self, text, many=1):
        self.assertEqual(loaded(text), [many], text)

    def refuses(self, text, line=1):
        self.assertEqual(loaded(text), [-2, line], text)

    def takes_alone(self, line):
        """The line is taken among others, and is one instruction."""
        self.takes(lines("MOV r0,v0", line, "MOV o0,r0"), 3)

    def refuses_alone(self, line):
        self.refuses(lines("MOV r0,v0", line, "MOV o0,r0"), 2)
