"""The machine that a list of calls is about; each call answers a list of numbers."""

from fourfloats.listing import Listing
from fourfloats.operands import NotAsTold

DONE = 0
OUT_OF_BOUNDS = -1
BAD_LINE = -2
TOO_MANY_STEPS = -3

CONSTANTS = 32
MOST_BYTES = 65536
MOST_STEPS = 65536


class Machine:
    """program is a list of instructions or None; constants are the bits of four floats each."""

    def __init__(self):
        self.begin()

    def begin(self):
        self.program = None
        self.constants = [(0, 0, 0, 0)] * CONSTANTS
        return [DONE]

    def load(self, codes):
        if len(codes) > MOST_BYTES:
            return [OUT_OF_BOUNDS]
        listing = Listing()
        try:
            listing.take_text(codes)
        except NotAsTold:
            return [BAD_LINE, listing.line]
        if listing.steps > MOST_STEPS:
            return [TOO_MANY_STEPS]
        self.program = listing.instructions
        return [len(listing.instructions)]

    def constant(self, k, floats):
        if k >= CONSTANTS:
            return [OUT_OF_BOUNDS]
        self.constants[k] = tuple(floats)
        return [DONE]
