"""The calls on one machine, handed in as one list of whole numbers."""

from fourfloats.machine import Machine

BEGIN = 0
LOAD = 1
CONSTANT = 2
TABLE = 3
RUN = 4
RUN_HALVES = 5


class UnknownCall(ValueError):
    """A call's number that the program has no call for."""


class Tape:
    """The numbers handed in, taken from the front; the list itself is only read."""

    def __init__(self, numbers):
        self.numbers = numbers
        self.place = 0

    def has_more(self):
        return self.place < len(self.numbers)

    def take_one(self):
        number = self.numbers[self.place]
        self.place += 1
        return number

    def take_many(self, many):
        start = self.place
        self.place += many
        return self.numbers[start:self.place]

    def take_row(self):
        many = self.take_one()
        return self.take_many(many)


def answers(calls):
    """For each call how many numbers are answered, then these."""
    machine = Machine()
    tape = Tape(calls)
    told = []
    while tape.has_more():
        answer = answer_of_call(machine, tape)
        told.append(len(answer))
        told.extend(answer)
    return told


def answer_of_call(machine, tape):
    call = tape.take_one()
    if call == BEGIN:
        return machine.begin()
    if call == LOAD:
        return machine.load(tape.take_row())
    if call == CONSTANT:
        k = tape.take_one()
        return machine.constant(k, tape.take_many(4))
    if call == TABLE:
        return answer_of_table(machine, tape)
    if call == RUN or call == RUN_HALVES:
        return answer_of_run(machine, tape, call)
    raise UnknownCall("no call has this number")


def answer_of_table(machine, tape):
    unit = tape.take_one()
    w = tape.take_one()
    h = tape.take_one()
    how = tape.take_one()
    return machine.table(unit, w, h, how, tape.take_row())


def answer_of_run(machine, tape, call):
    per = tape.take_one()
    n = tape.take_one()
    row = tape.take_row()
    return machine.run(per, n, row) if call == RUN else machine.run_halves(per, n, row)
