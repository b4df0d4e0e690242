"""The machine that a list of calls is about; each call answers a list of numbers."""

from fourfloats.cells import POINT_VECTORS
from fourfloats.cells import RESULT_CELLS
from fourfloats.cells import cells_at_first
from fourfloats.listing import Listing
from fourfloats.operands import NotAsTold
from fourfloats.parts import as_it_is
from fourfloats.programs import results_of
from fourfloats.programs import steps_of
from fourfloats.rounding import half_of
from fourfloats.rounding import single_of_half
from fourfloats.tables import Table

DONE = 0
OUT_OF_BOUNDS = -1
BAD_LINE = -2
NO_PROGRAM = -2
TOO_MANY_STEPS = -3

CONSTANTS = 32
TABLES = 4
WAYS_TO_READ = 2
MOST_BYTES = 65536
MOST_STEPS = 65536
MOST_PLACES = 65536
MOST_POINTS = 65536


class Machine:
    """program is a list of steps, or None; constants are four singles each; of tables that aren't there is None."""

    def __init__(self):
        self.begin()

    def begin(self):
        self.program = None
        self.constants = [(0, 0, 0, 0)] * CONSTANTS
        self.tables = [None] * TABLES
        return [DONE]

    def load(self, codes):
        if len(codes) > MOST_BYTES:
            return [OUT_OF_BOUNDS]
        listing = Listing()
        try:
            listing.take_text(codes)
        except NotAsTold:
            return [BAD_LINE, listing.line]
        if listing.steps > MOST_STEPS:
            return [TOO_MANY_STEPS]
        self.program = steps_of(listing.instructions)
        return [len(listing.instructions)]

    def constant(self, k, floats):
        if k >= CONSTANTS:
            return [OUT_OF_BOUNDS]
        self.constants[k] = tuple(floats)
        return [DONE]

    def table(self, unit, w, h, how, halves):
        if unit >= TABLES or w == 0 or h == 0 or w * h > MOST_PLACES or how >= WAYS_TO_READ:
            return [OUT_OF_BOUNDS]
        self.tables[unit] = Table(w, h, how, halves)
        return [DONE]

    def run(self, per, n, floats):
        return self.run_points(per, n, floats, as_it_is)

    def run_halves(self, per, n, halves):
        return self.run_points(per, n, [single_of_half(half) for half in halves], half_of)

    def run_points(self, per, n, singles, told_as):
        """Runs the program for each point; told_as makes of a single what's told of it."""
        if per > POINT_VECTORS or n > MOST_POINTS:
            return [OUT_OF_BOUNDS]
        if self.program is None:
            return [NO_PROGRAM]
        results = []
        kepts = []
        # Points with the same vectors have the same results, so each is run once.
        known = {}
        for k in range(n):
            point = tuple(singles[4 * per * k:4 * per * (k + 1)])
            if point not in known:
                known[point] = self.run_point(point, told_as)
            results.extend(known[point][0])
            kepts.append(known[point][1])
        return [sum(kepts)] + results + kepts

    def run_point(self, point, told_as):
        """The sixteen results as they are told, and whether the point is kept, as 0 or 1."""
        given = []
        for constant in self.constants:
            given.extend(constant)
        results = results_of(self.program, cells_at_first(point, given), self.tables)
        if results is None:
            return ([0] * RESULT_CELLS, 0)
        return ([told_as(single) for single in results], 1)
