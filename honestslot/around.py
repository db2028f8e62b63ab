"""The given functions around the machine."""

TAKE = 1
IN = 2
OUT = 3
FELL = 4
PAY = 5
DROP = 6
SHOW = 7


class Around:
    """The given functions in one call: what they are told, and what was asked of them."""

    def __init__(self, told):
        self.told = told
        self.heard = 0
        self.times = 0
        self.asked = []

    def note(self, numbers):
        """Writes down that a given function is asked once."""
        self.times += 1
        self.asked.extend(numbers)

    def ask(self, function, which):
        """Asks a function that answers, of a kind or a slot."""
        self.note([function, which])
        self.heard += 1
        return self.told[self.heard - 1]

    def counters(self, function, count):
        """Asks a counter of each kind or slot, rising."""
        return [self.ask(function, which) for which in range(count)]

    def pay(self, kind):
        """Whether a coin of the kind fell."""
        return self.ask(PAY, kind) == 1

    def drop(self, slot):
        """Whether one of the slot's goods fell."""
        return self.ask(DROP, slot) == 1

    def take(self, kinds):
        """Lets coins of these kinds (bits) in."""
        self.note([TAKE, kinds])

    def show(self, amount, slots):
        """Shows an amount and slots (bits)."""
        self.note([SHOW, amount, slots])
