"""The cells of a point: the singles of all vectors that its run reads or writes, one behind another."""

from fourfloats.rounding import ONE
from fourfloats.rounding import SIGN

# r0 to r15, then v0 to v7, then c0 to c31, then o0 to o3.
FIRST_CELLS = {"r": 0, "v": 64, "c": 96, "o": 224}
OWN_CELLS = 64
RESULT_CELLS = 16
POINT_VECTORS = 8


def taken_cells(vector):
    """Of each of the four parts its cell, and the bits that flip its sign."""
    first = FIRST_CELLS[vector[0]] + 4 * vector[1]
    flip = SIGN if vector[3] else 0
    return [(first + part, flip) for part in vector[2]]


def written_cells(vector):
    first = FIRST_CELLS[vector[0]] + 4 * vector[1]
    return [first + part for part in vector[2]]


def cells_at_first(point, constants):
    """What a run begins with; point and constants are singles, four a vector."""
    not_given = [0, 0, 0, ONE] * (POINT_VECTORS - len(point) // 4)
    return [0] * OWN_CELLS + list(point) + not_given + constants + [0] * RESULT_CELLS


def results_in(cells):
    return cells[FIRST_CELLS["o"]:]
