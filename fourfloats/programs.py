"""A program made of its instructions' steps, and its run for one point."""

from fourfloats.cells import results_in
from fourfloats.cells import taken_cells
from fourfloats.parts import is_less
from fourfloats.steps import PointLeftOut
from fourfloats.steps import step_of


class Block:
    """The steps behind an IF or REP that is open; those behind an ELSE are a row of their own."""

    def __init__(self, head):
        self.head = head
        self.rows = [[]]

    def take_step(self, step):
        self.rows[-1].append(step)

    def take_else(self):
        self.rows.append([])


def steps_of(instructions):
    """The steps outside every IF and REP; what's within is within their steps."""
    blocks = [Block(None)]
    for instruction in instructions:
        if instruction.name in ("IF", "REP"):
            blocks.append(Block(instruction))
        elif instruction.name == "ELSE":
            blocks[-1].take_else()
        elif instruction.name == "END":
            ended = blocks.pop()
            blocks[-1].take_step(step_of_block(ended))
        else:
            blocks[-1].take_step(step_of(instruction))
    return blocks[0].rows[0]


def step_of_block(block):
    operand = block.head.operands[0]
    if block.head.name == "REP":
        return step_that_repeats(operand, block.rows[0])
    behind_else = block.rows[1] if len(block.rows) > 1 else []
    return step_that_chooses(taken_cells(operand)[0], block.rows[0], behind_else)


def step_that_repeats(times, steps):
    def step(cells, tables):
        for turn in range(times):
            run_steps(steps, cells, tables)
    return step


def step_that_chooses(source, steps, behind_else):
    def step(cells, tables):
        greater_than_0 = is_less(0, cells[source[0]] ^ source[1])
        run_steps(steps if greater_than_0 else behind_else, cells, tables)
    return step


def run_steps(steps, cells, tables):
    for step in steps:
        step(cells, tables)


def results_of(steps, cells, tables):
    """The sixteen results, or None of a point that's left out."""
    try:
        run_steps(steps, cells, tables)
    except PointLeftOut:
        return None
    return results_in(cells)
