"""How tests write lines of calls and read what they answer."""

from honestslot.machine import answers

# What stands in a row for kinds and slots that aren't there: nothing that a setup may hold.
OTHER = 4294967295
OTHER_COUNT = 18446744073709551615

TAKE, IN, OUT, FELL, PAY, DROP, SHOW = 1, 2, 3, 4, 5, 6, 7


def filled(row, other):
    return list(row) + [other] * (8 - len(row))


class Setup:
    """A setup as a start writes it; the kinds and slots there are have the length of value and price."""

    def __init__(self, value, tube, price, stock, most=10000, none=0, in0=None, out0=None, fell0=None):
        self.value = list(value)
        self.tube = list(tube)
        self.price = list(price)
        self.stock = list(stock)
        self.kinds = len(value)
        self.slots = len(price)
        self.most = most
        self.none = none
        self.in0 = list(in0) if in0 is not None else [0] * self.kinds
        self.out0 = list(out0) if out0 is not None else [0] * self.kinds
        self.fell0 = list(fell0) if fell0 is not None else [0] * self.slots

    def numbers(self):
        written = [self.kinds, self.slots, self.most, self.none]
        for row in (self.value, self.tube, self.price, self.stock):
            written += [8] + filled(row, OTHER)
        for row in (self.in0, self.out0, self.fell0):
            written += [8] + filled(row, OTHER_COUNT)
        return written


def start(setup, told=()):
    return [0] + setup.numbers() + [len(told)] + list(told)


def press(slot, told=()):
    return [1, slot, len(told)] + list(told)


def cancel(told=()):
    return [2, len(told)] + list(told)


def tick(told=()):
    return [3, len(told)] + list(told)


def split(answered):
    """What each call answers: its number, and what it asked, as tuples."""
    calls = []
    place = 0
    while place < len(answered):
        length = answered[place]
        numbers = answered[place + 1:place + 1 + length]
        assert len(numbers) == length >= 2, answered
        calls.append((numbers[0], asked(numbers[1], numbers[2:])))
        place += 1 + length
    return calls


def asked(times, numbers):
    """The numbers behind how many times something was asked, as tuples."""
    found = []
    place = 0
    while place < len(numbers):
        size = 3 if numbers[place] == SHOW else 2
        assert 1 <= numbers[place] <= 7 and place + size <= len(numbers), numbers
        found.append(tuple(numbers[place:place + size]))
        place += size
    assert len(found) == times, (times, numbers)
    return found


def told_count(call):
    """How many numbers a written call tells."""
    return call[{0: 68, 1: 2}.get(call[0], 1)]


def run(*calls):
    """The answers of these calls as one line; each call must tell just as many numbers as are asked for."""
    answered = split(answers([number for call in calls for number in call]))
    for call, (number, asks) in zip(calls, answered, strict=True):
        wanted = sum(function in (IN, OUT, FELL, PAY, DROP) for function, *rest in asks)
        assert told_count(call) == wanted, (call, asks)
    return answered


def counters(setup):
    """What each call asks first."""
    return ([(TAKE, 0)] + [(IN, kind) for kind in range(setup.kinds)]
            + [(OUT, kind) for kind in range(setup.kinds)] + [(FELL, slot) for slot in range(setup.slots)])


def middle(setup, call):
    """What a call asks between the counters and its end."""
    return call[1][len(counters(setup)):-2]


def paid(setup, call):
    """The kinds of which pay was asked, in order."""
    return [which for function, which in middle(setup, call) if function == PAY]


def shown(call):
    """The amount and the slots that are shown, and the kinds that are let in."""
    show, take = call[1][-2:]
    assert show[0] == SHOW and take[0] == TAKE, call
    return show[1], show[2], take[1]
