"""Drawn lines: a world in which coins come in, stick and get lost to a broken call, and a model in it."""

from tests.lines import Setup, press, shown, start
from tests.model import Model, World

TOP = 2 ** 64


def values_of(draw, size):
    """Values of kinds: plain coins, small ones of any kind, or ones as great as can be."""
    way = draw.randrange(4)
    count = draw.randint(1, 8)
    if way == 0:
        return draw.sample([1, 2, 5, 10, 20, 50, 100, 200], count)
    if way == 1:
        return [draw.randint(1, 15) for kind in range(count)]
    if way == 2:
        return [draw.choice([10, 20, 50, 50]) for kind in range(count)]
    return [draw.randint(1, 10000 if size == "large" else 500) for kind in range(count)]


class Drawing:
    """One line in the making."""

    def __init__(self, draw, size):
        self.draw = draw
        self.size = size
        self.smooth = False
        value = values_of(draw, size)
        slots = draw.randint(1, 8)
        self.world = World(len(value), slots, self.falls)
        self.world.came = [draw.choice([0, 7, TOP - 100000]) for kind in value]
        self.world.paid = [draw.choice([0, 7, TOP - 100000]) for kind in value]
        self.world.fell = [draw.choice([0, 7, TOP - 100000]) for slot in range(slots)]
        self.chance = draw.choice([0, 0.02, 0.2, 0.6])
        self.setup = self.drawn_setup(value, slots)
        self.model = Model(self.world)
        # For each call the setup behind it, for those who look at what holds.
        self.setups = []

    def falls(self, function, which):
        return self.smooth or self.draw.random() >= self.chance

    def drawn_setup(self, value, slots):
        draw = self.draw
        great = 200 if self.size == "large" else draw.choice([0, 2, 6])
        price = [draw.randint(1, draw.choice([10, 100, max(value) * 2])) for slot in range(slots)]
        return Setup(value, [draw.randint(0, great) for kind in value], [min(each, 10000) for each in price],
                     [draw.choice([0, 1, 2, 200]) for slot in range(slots)], draw.choice([1, 20, 100, 1000, 10000]), 0,
                     self.world.came, self.world.paid, self.world.fell)

    def state(self):
        """What is at hand, left and credit by the world's counters."""
        setup, world = self.setup, self.world
        net = [world.came[k] - setup.in0[k] - world.paid[k] + setup.out0[k] for k in range(setup.kinds)]
        fell = [world.fell[s] - setup.fell0[s] for s in range(setup.slots)]
        hand = [setup.tube[k] + net[k] for k in range(setup.kinds)]
        left = [setup.stock[s] - fell[s] for s in range(setup.slots)]
        credit = sum(a * b for a, b in zip(setup.value, net)) - sum(a * b for a, b in zip(setup.price, fell))
        return hand, left, credit

    def coins_come(self):
        for turn in range(self.draw.choice([0, 0, 1, 1, 2, 5, 40 if self.size == "large" else 8])):
            kind = self.draw.randrange(self.setup.kinds)
            hand, left, credit = self.state()
            if hand[kind] < 400 and credit + self.setup.value[kind] <= 20000:
                self.world.came[kind] += 1

    def call_breaks(self):
        """Power goes in the midst of a call: a good fell or coins did, and nobody wrote it down."""
        slot = self.draw.randrange(self.setup.slots)
        hand, left, credit = self.state()
        if left[slot] > 0 and self.setup.price[slot] <= credit and self.draw.random() < 0.5:
            self.world.fell[slot] += 1
        for turn in range(self.draw.choice([0, 1, 3])):
            kind = self.draw.randrange(self.setup.kinds)
            hand, left, credit = self.state()
            if hand[kind] > 0 and self.setup.value[kind] <= credit:
                self.world.paid[kind] += 1

    def wrong_setup(self):
        numbers = dict(value=0, tube=201, price=10001, stock=201)
        name = self.draw.choice(sorted(numbers))
        wrong = self.drawn_setup(self.setup.value, self.setup.slots)
        row = getattr(wrong, name)
        row[self.draw.randrange(len(row))] = numbers[name]
        return wrong

    def start_again(self):
        if self.draw.random() < 0.3:
            self.model.refused(start(self.wrong_setup()))
            return
        if self.draw.random() < 0.3:
            hand, left, credit = self.state()
            if credit == 0 and max(hand) <= 200:
                # Someone filled the machine up and noted how things stand.
                self.setup = self.drawn_setup(self.setup.value, self.setup.slots)
        self.model.start(self.setup)

    def press_shown(self):
        """Presses a slot, and says what is to come of it where all goes well."""
        self.smooth = True
        slot = self.draw.randrange(self.setup.slots)
        buyable = shown(self.model.expected[-1])[1] >> slot & 1
        number = self.model.press(slot)
        assert number == (0 if buyable else -33), (slot, self.model.expected[-2:])
        self.smooth = False

    def add_call(self):
        way = self.draw.random()
        if way < 0.15 and self.model.expected[-1][1]:
            self.press_shown()
            return
        self.coins_come()
        if way < 0.3:
            self.call_breaks()
            self.start_again()
        elif way < 0.65:
            self.model.press(self.draw.randrange(self.setup.slots))
        elif way < 0.7:
            self.model.refused(press(self.draw.choice([self.setup.slots, 8, 9, 4294967295])))
        elif way < 0.8:
            self.model.cancel()
        else:
            self.model.tick()

    def make(self, count):
        if self.draw.random() < 0.2:
            self.model.refused(start(self.wrong_setup()))
            self.setups.append(None)
        self.coins_come()
        self.model.start(self.setup)
        self.setups.append(self.setup)
        while len(self.model.calls) < count and len(self.model.line()) < 12000:
            self.add_call()
            self.setups.append(self.setup)
        return self
