"""Tables of places with four halves each, and how they are read."""

from fourfloats.arithmetic import difference
from fourfloats.arithmetic import product
from fourfloats.parts import behind_floor
from fourfloats.parts import between
from fourfloats.parts import whole_part
from fourfloats.rounding import ONE
from fourfloats.rounding import SIGN
from fourfloats.rounding import is_finite
from fourfloats.rounding import is_number
from fourfloats.rounding import single_of
from fourfloats.rounding import single_of_half

PLAIN = 0
ONE_HALF = 0x3F000000


class Table:
    """The places' vectors row by row, as singles; how tells whether a read mixes four places."""

    def __init__(self, width, height, how, halves):
        self.width = width
        self.height = height
        self.how = how
        self.width_single = single_of(width, 0)
        self.height_single = single_of(height, 0)
        singles = [single_of_half(half) for half in halves]
        self.vectors = [tuple(singles[start:start + 4]) for start in range(0, len(singles), 4)]

    def read_at(self, x, y):
        across = product(x, self.width_single)
        down = product(y, self.height_single)
        if self.how == PLAIN:
            return self.vector_at(place_at(across, self.width), place_at(down, self.height))
        return self.mixed_at(difference(across, ONE_HALF), difference(down, ONE_HALF))

    def vector_at(self, column, row):
        return self.vectors[within(row, self.height) * self.width + within(column, self.width)]

    def mixed_at(self, across, down):
        column = place_at(across, self.width)
        row = place_at(down, self.height)
        f = behind_floor(across)
        upper = mixed(f, self.vector_at(column, row), self.vector_at(column + 1, row))
        lower = mixed(f, self.vector_at(column, row + 1), self.vector_at(column + 1, row + 1))
        return mixed(behind_floor(down), upper, lower)


def place_at(a, many):
    """The column or row, of so many, that a's FLR counts as; it may lie before the first or behind the last."""
    if is_finite(a):
        return whole_part(a)
    if not is_number(a) or a & SIGN:
        return 0
    return many - 1


def within(place, many):
    return min(max(place, 0), many - 1)


def mixed(f, near, far):
    return [between(f, b, a) for a, b in zip(near, far)]


def read_table(table, x, y):
    if table is None:
        return (0, 0, 0, ONE)
    return table.read_at(x, y)
