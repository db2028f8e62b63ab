"""The machine: its calls, and how a line of them is read and answered."""

from honestslot.setups import Setup
from honestslot.setups import is_as_told
from honestslot.turn import Turn

START = 0
PRESS = 1
CANCEL = 2

WRONG = -22
NOT_FOR_SALE = -33
DID_NOT_FALL = -5


class Reader:
    """Reads a line number by number and row by row."""

    def __init__(self, numbers):
        self.numbers = numbers
        self.place = 0

    def at_end(self):
        """Whether everything is read."""
        return self.place >= len(self.numbers)

    def number(self):
        """The next number."""
        self.place += 1
        return self.numbers[self.place - 1]

    def row(self):
        """The next row, which has its length before it; it is a copy."""
        length = self.number()
        self.place += length
        return self.numbers[self.place - length:self.place]


class Machine:
    """What is kept from call to call."""

    def __init__(self):
        self.setup = None
        self.stuck = []
        self.failed = []

    def begin(self, setup):
        """Takes a setup; nothing stuck, nothing failed."""
        self.setup = setup
        self.stuck = [False] * setup.kinds
        self.failed = [False] * setup.slots


def refusal():
    """What a call answers that asks nothing."""
    return [WRONG, 0]


def start(machine, setup, told):
    """Answers a start."""
    if not is_as_told(setup):
        return refusal()
    machine.begin(setup)
    # From here on a start does what a cancel does: it pays back what is credit.
    return cancel(machine, told)


def press(machine, slot, told):
    """Answers a press."""
    if slot >= machine.setup.slots:
        return refusal()
    turn = Turn(machine, told)
    return turn.end(sell(turn, slot))


def sell(turn, slot):
    """Sells one of the slot's goods: the credit that is left, or why it was not sold."""
    if not turn.for_sale()[slot]:
        return NOT_FOR_SALE
    if not turn.drop(slot):
        return DID_NOT_FALL
    turn.pay_back()
    return turn.credit


def cancel(machine, told):
    """Answers a cancel."""
    turn = Turn(machine, told)
    turn.pay_back()
    return turn.end(turn.credit)


def tick(machine, told):
    """Answers a tick."""
    turn = Turn(machine, told)
    return turn.end(turn.credit)


def answer_call(machine, reader):
    """Reads the next call of the line and answers it."""
    call = reader.number()
    if call == START:
        setup = Setup(reader)
        return start(machine, setup, reader.row())
    if call == PRESS:
        slot = reader.number()
        return press(machine, slot, reader.row())
    if call == CANCEL:
        return cancel(machine, reader.row())
    return tick(machine, reader.row())


def answers(calls):
    """What the calls of a line answer, each with how many numbers it answers before it."""
    reader = Reader(calls)
    machine = Machine()
    result = []
    while not reader.at_end():
        answer = answer_call(machine, reader)
        result.append(len(answer))
        result.extend(answer)
    return result
