"""The lines of a program's text, one behind another, and what is open at each."""

from fourfloats.instructions import instruction_of
from fourfloats.operands import NotAsTold

MOST_INSTRUCTIONS = 1024
MOST_BLOCKS = 8
REMARK = "#"

# Every sign that a program may hold outside its remarks, and the two that end a remark or begin it.
SIGNS = "\n #,-._0123456789ABCDEFGHIJKLMNOPQRSTUVWXYZabcdefghijklmnopqrstuvwxyz"
# Stands for every other byte: no line that has it outside a remark is as told.
OTHER_SIGN = "?"


def text_of(codes):
    signs = [OTHER_SIGN] * 256
    for sign in SIGNS:
        signs[ord(sign)] = sign
    return "".join([signs[code] for code in codes])


class Listing:
    """The instructions so far, the line that was taken last, and how many instructions a point might run."""

    def __init__(self):
        self.instructions = []
        self.line = 0
        self.steps = 0
        # Of each IF, ELSE or REP around the next line, the innermost last: its name, and how often
        # the lines within may run.
        self.blocks = []

    def take_text(self, codes):
        """Takes every line; where one isn't as told, NotAsTold is raised and line is its number."""
        for line in text_of(codes).split("\n"):
            self.line += 1
            said = line.partition(REMARK)[0].strip(" ")
            if said != "":
                self.take_instruction(instruction_of(said))
        if len(self.blocks) > 0:
            raise NotAsTold("something is still open at the end")

    def take_instruction(self, instruction):
        if len(self.instructions) == MOST_INSTRUCTIONS:
            raise NotAsTold("too many instructions")
        # Counted ahead of the change in blocks: a REP runs with what's around it, its END with what's within.
        self.steps += self.times_here()
        self.change_blocks(instruction)
        self.instructions.append(instruction)

    def times_here(self):
        return self.blocks[-1][1] if len(self.blocks) > 0 else 1

    def change_blocks(self, instruction):
        if instruction.name == "IF":
            self.begin_block("IF", 1)
        elif instruction.name == "REP":
            self.begin_block("REP", instruction.operands[0])
        elif instruction.name == "ELSE":
            self.turn_to_else()
        elif instruction.name == "END":
            self.end_block()

    def begin_block(self, name, times):
        if len(self.blocks) == MOST_BLOCKS:
            raise NotAsTold("too many open at once")
        self.blocks.append((name, times * self.times_here()))

    def turn_to_else(self):
        if len(self.blocks) == 0 or self.blocks[-1][0] != "IF":
            raise NotAsTold("an ELSE that belongs to nothing")
        # An own name, so that a second ELSE finds no IF.
        self.blocks[-1] = ("ELSE", self.times_here())

    def end_block(self):
        if len(self.blocks) == 0:
            raise NotAsTold("an END that belongs to nothing")
        self.blocks.pop()
