"""A world with coins and goods in it, and the document's words followed one by one in it.

The model looks for payments in another way than the program: it tries each choice that the words name, each time anew.
"""

from tests.lines import DROP, FELL, IN, OUT, PAY, SHOW, TAKE
from tests.lines import cancel, press, start, tick


def payable(value, count, limit):
    """The amounts up to limit that can be paid, as the bits of one number."""
    room = (1 << (limit + 1)) - 1
    amounts = 1
    for worth, coins in zip(value, count):
        for coin in range(min(coins, limit // worth)):
            more = (amounts | (amounts << worth)) & room
            if more == amounts:
                break
            amounts = more
    return amounts


def can_be_paid(value, count, amount):
    return payable(value, count, amount) >> amount & 1 == 1


def greatest(value, count, limit):
    return payable(value, count, limit).bit_length() - 1


class World:
    """Counters, and coins and motors that do what they're bidden or not."""

    def __init__(self, kinds, slots, falls=lambda function, which: True):
        self.came = [0] * kinds
        self.paid = [0] * kinds
        self.fell = [0] * slots
        self.falls = falls
        self.told = []
        self.asked = []

    def tell(self, number):
        self.told.append(number)
        return number

    def ask(self, function, which, *slots):
        self.asked.append((function, which, *slots))
        if function == IN:
            return self.tell(self.came[which])
        if function == OUT:
            return self.tell(self.paid[which])
        if function == FELL:
            return self.tell(self.fell[which])
        if function in (PAY, DROP):
            if not self.falls(function, which):
                return self.tell(0)
            counter = self.paid if function == PAY else self.fell
            counter[which] += 1
            return self.tell(1)
        return None


class Model:
    """A machine in a world; it keeps the calls and what they are to answer."""

    def __init__(self, world):
        self.world = world
        self.setup = None
        self.stuck = set()
        self.failed = set()
        self.calls = []
        self.expected = []

    def read(self):
        setup, world = self.setup, self.world
        world.ask(TAKE, 0)
        came = [world.ask(IN, kind) - setup.in0[kind] for kind in range(setup.kinds)]
        paid = [world.ask(OUT, kind) - setup.out0[kind] for kind in range(setup.kinds)]
        fell = [world.ask(FELL, slot) - setup.fell0[slot] for slot in range(setup.slots)]
        self.hand = [setup.tube[kind] + came[kind] - paid[kind] for kind in range(setup.kinds)]
        self.left = [setup.stock[slot] - fell[slot] for slot in range(setup.slots)]
        self.credit = (sum(setup.value[kind] * (came[kind] - paid[kind]) for kind in range(setup.kinds))
                       - sum(setup.price[slot] * fell[slot] for slot in range(setup.slots)))
        assert min(came + paid + fell + self.hand + self.left + [self.credit]) >= 0
        assert self.credit <= 20000 and max(self.hand) <= 400

    def loose(self, less=None):
        return [0 if kind in self.stuck else self.hand[kind] - (kind == less) for kind in range(self.setup.kinds)]

    def can_be_bought(self, slot):
        rest = self.credit - self.setup.price[slot]
        return (self.left[slot] > 0 and slot not in self.failed and rest >= 0
                and can_be_paid(self.setup.value, self.loose(), rest))

    def first_kind(self, amount):
        for kind, value in enumerate(self.setup.value):
            if kind not in self.stuck and self.hand[kind] > 0 and value <= amount:
                if greatest(self.setup.value, self.loose(kind), self.credit - value) == amount - value:
                    return kind
        raise AssertionError("no kind pays")

    def pay_back(self):
        while True:
            amount = greatest(self.setup.value, self.loose(), self.credit)
            if amount == 0:
                return
            kind = self.first_kind(amount)
            if self.world.ask(PAY, kind) == 1:
                self.hand[kind] -= 1
                self.credit -= self.setup.value[kind]
            else:
                self.stuck.add(kind)

    def finish(self, write, number):
        slots = sum(1 << slot for slot in range(self.setup.slots) if self.can_be_bought(slot))
        kinds = sum(1 << kind for kind in range(self.setup.kinds) if kind not in self.stuck)
        self.world.ask(SHOW, self.credit, slots)
        self.world.ask(TAKE, kinds if self.credit < self.setup.most else 0)
        self.calls.append(write(self.world.told))
        self.expected.append((number, self.world.asked))
        self.world.told = []
        self.world.asked = []
        return number

    def start(self, setup):
        self.setup = setup
        self.stuck = set()
        self.failed = set()
        self.read()
        self.pay_back()
        return self.finish(lambda told: start(setup, told), self.credit)

    def press(self, slot):
        self.read()
        return self.finish(lambda told: press(slot, told), self.sell(slot))

    def sell(self, slot):
        if not self.can_be_bought(slot):
            return -33
        if self.world.ask(DROP, slot) == 0:
            self.failed.add(slot)
            return -5
        self.left[slot] -= 1
        self.credit -= self.setup.price[slot]
        self.pay_back()
        return self.credit

    def cancel(self):
        self.read()
        self.pay_back()
        return self.finish(cancel, self.credit)

    def tick(self):
        self.read()
        return self.finish(tick, self.credit)

    def refused(self, call):
        """A call that is to be answered -22."""
        self.calls.append(call)
        self.expected.append((-22, []))

    def line(self):
        return [number for call in self.calls for number in call]
