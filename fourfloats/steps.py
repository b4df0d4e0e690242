"""Instructions made into steps: functions that are run on a point's cells and on the tables."""

from fourfloats.arithmetic import difference
from fourfloats.arithmetic import product
from fourfloats.arithmetic import product_and_sum
from fourfloats.arithmetic import quotient
from fourfloats.arithmetic import root
from fourfloats.arithmetic import total_of
from fourfloats.cells import taken_cells
from fourfloats.cells import written_cells
from fourfloats.parts import as_it_is
from fourfloats.parts import behind_floor
from fourfloats.parts import between
from fourfloats.parts import chosen
from fourfloats.parts import floor_of
from fourfloats.parts import greater
from fourfloats.parts import is_less
from fourfloats.parts import lesser
from fourfloats.parts import one_by
from fourfloats.parts import one_by_root
from fourfloats.parts import one_where_less
from fourfloats.parts import one_where_not_less
from fourfloats.parts import saturated
from fourfloats.parts import through_half
from fourfloats.parts import without_sign
from fourfloats.tables import read_table
from fourfloats.vectors import cross
from fourfloats.vectors import dot_of_four
from fourfloats.vectors import dot_of_three

OF_ONE = {
    "MOV": as_it_is,
    "ABS": without_sign,
    "FLR": floor_of,
    "FRC": behind_floor,
    "RCP": one_by,
    "SQR": root,
    "RSQ": one_by_root,
    "HLF": through_half,
}

OF_TWO = {
    "ADD": total_of,
    "SUB": difference,
    "MUL": product,
    "DIV": quotient,
    "MIN": lesser,
    "MAX": greater,
    "SLT": one_where_less,
    "SGE": one_where_not_less,
}

OF_THREE = {
    "MAD": product_and_sum,
    "LRP": between,
    "CMP": chosen,
}

OF_VECTORS = {
    "DP3": dot_of_three,
    "DP4": dot_of_four,
    "XPD": cross,
}


class PointLeftOut(Exception):
    """A KIL ends the run of a point."""


def step_of(instruction):
    """The step of an instruction that has no lines within."""
    if instruction.name == "KIL":
        return step_that_leaves_out(taken_cells(instruction.operands[0]))
    told = told_by(instruction)
    if instruction.saturates:
        told = told_saturated(told)
    return step_that_writes(written_cells(instruction.operands[0]), told)


def step_that_leaves_out(source):
    def step(cells, tables):
        for cell, flip in source:
            if is_less(cells[cell] ^ flip, 0):
                raise PointLeftOut("a part is less than 0")
    return step


def step_that_writes(targets, told):
    def step(cells, tables):
        # All is told before the first is written: an instruction may read what it writes.
        singles = told(cells, tables)
        for target, single in zip(targets, singles):
            cells[target] = single
    return step


def told_by(instruction):
    """A function that tells, from cells and tables, the singles for the parts that are written."""
    name = instruction.name
    parts = instruction.operands[0][2]
    if name == "TEX":
        return told_by_table(instruction.operands[2], taken_cells(instruction.operands[1]), parts)
    sources = [taken_cells(vector) for vector in instruction.operands[1:]]
    if name in OF_VECTORS:
        return told_of_vectors(OF_VECTORS[name], sources[0], sources[1], parts)
    # Parts that aren't written aren't reckoned either.
    sources = [[source[part] for part in parts] for source in sources]
    if name in OF_ONE:
        return told_of_one(OF_ONE[name], sources[0])
    if name in OF_TWO:
        return told_of_two(OF_TWO[name], list(zip(sources[0], sources[1])))
    return told_of_three(OF_THREE[name], list(zip(sources[0], sources[1], sources[2])))


def told_of_one(operation, source):
    def told(cells, tables):
        return [operation(cells[cell] ^ flip) for cell, flip in source]
    return told


def told_of_two(operation, pairs):
    def told(cells, tables):
        return [operation(cells[a[0]] ^ a[1], cells[b[0]] ^ b[1]) for a, b in pairs]
    return told


def told_of_three(operation, triples):
    def told(cells, tables):
        return [operation(cells[a[0]] ^ a[1], cells[b[0]] ^ b[1], cells[c[0]] ^ c[1]) for a, b, c in triples]
    return told


def told_of_vectors(operation, a, b, parts):
    def told(cells, tables):
        vector = operation([cells[cell] ^ flip for cell, flip in a], [cells[cell] ^ flip for cell, flip in b])
        return [vector[part] for part in parts]
    return told


def told_by_table(k, source, parts):
    x = source[0]
    y = source[1]

    def told(cells, tables):
        vector = read_table(tables[k], cells[x[0]] ^ x[1], cells[y[0]] ^ y[1])
        return [vector[part] for part in parts]
    return told


def told_saturated(told):
    def saturating(cells, tables):
        return [saturated(single) for single in told(cells, tables)]
    return saturating
