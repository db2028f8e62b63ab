"""One call on a started machine."""

from honestslot.amounts import holds
from honestslot.around import FELL
from honestslot.around import IN
from honestslot.around import OUT
from honestslot.around import Around
from honestslot.change import payable
from honestslot.change import payment_back


def since(now, before):
    """How far each counter went on."""
    return [number - first for number, first in zip(now, before)]


def worth(price, count):
    """What so many of each come to."""
    return sum([each * many for each, many in zip(price, count)])


def bits(marks):
    """The number whose bit k says mark k."""
    result = 0
    for place, mark in enumerate(marks):
        if mark:
            result += 1 << place
    return result


class Turn:
    """What is at hand, left and credit in a call: by the counters first, then as coins and goods fall."""

    def __init__(self, machine, told):
        setup = machine.setup
        around = Around(told)
        # The mouth is closed ahead of the counters, so that no coin comes in behind its count.
        around.take(0)
        came = since(around.counters(IN, setup.kinds), setup.in0)
        paid = since(around.counters(OUT, setup.kinds), setup.out0)
        fell = since(around.counters(FELL, setup.slots), setup.fell0)
        self.machine = machine
        self.around = around
        self.value = setup.value[:setup.kinds]
        self.at_hand = [tube + more - less for tube, more, less in zip(setup.tube, came, paid)]
        self.left = [stock - gone for stock, gone in zip(setup.stock, fell)]
        self.credit = worth(setup.value, came) - worth(setup.value, paid) - worth(setup.price, fell)

    def usable(self):
        """Of each kind how many coins there are to pay with: none of a kind that stuck."""
        return [0 if stuck else count for count, stuck in zip(self.at_hand, self.machine.stuck)]

    def for_sale(self):
        """Of each slot whether it can be bought."""
        change = payable(self.value, self.usable(), self.credit)
        return [self.can_be_bought(slot, change) for slot in range(self.machine.setup.slots)]

    def can_be_bought(self, slot, change):
        """Whether the slot can be bought, where just these amounts of change can be paid."""
        if self.left[slot] == 0 or self.machine.failed[slot]:
            return False
        rest = self.credit - self.machine.setup.price[slot]
        return rest >= 0 and holds(change, rest)

    def drop(self, slot):
        """Lets one of the slot's goods fall; False if it did not, and the slot fails."""
        if not self.around.drop(slot):
            self.machine.failed[slot] = True
            return False
        self.left[slot] -= 1
        self.credit -= self.machine.setup.price[slot]
        return True

    def pay_coin(self, kind):
        """Pays one coin out; False if it did not fall, and the kind sticks."""
        if not self.around.pay(kind):
            self.machine.stuck[kind] = True
            return False
        self.at_hand[kind] -= 1
        self.credit -= self.value[kind]
        return True

    def pay_coins(self, payment):
        """Pays so many coins of each kind; False as soon as a kind sticks."""
        for kind, count in enumerate(payment):
            for coin in range(count):
                if not self.pay_coin(kind):
                    return False
        return True

    def pay_back(self):
        """Pays back what is credit, as much as can be."""
        settled = False
        # Where a kind sticks, the other kinds may come to another greatest amount.
        while not settled:
            settled = self.pay_coins(payment_back(self.value, self.usable(), self.credit))

    def end(self, number):
        """Ends the call: what it answers, the number first and then what was asked."""
        self.around.show(self.credit, bits(self.for_sale()))
        if self.credit < self.machine.setup.most:
            self.around.take(bits([not stuck for stuck in self.machine.stuck]))
        else:
            self.around.take(0)
        return [number, self.around.times] + self.around.asked
