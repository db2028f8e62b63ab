"""Paying back: which coins, in which order, and how much of the credit."""

import itertools
import random
import time
import unittest

from honestslot.machine import answers
from tests.lines import Setup, cancel, paid, run, shown, split, start
from tests.model import Model, World, can_be_paid, greatest


def paid_back(value, tube, came, told, price=1, fell=0):
    """What is left and which kinds were asked to pay, where so many coins came in and goods fell."""
    setup = Setup(value, tube, [price], [200])
    none = [0] * (2 * len(value) + 1)
    call = run(start(setup, none), cancel(list(came) + [0] * len(value) + [fell] + list(told)))[1]
    return call[0], paid(setup, call)


class Choice(unittest.TestCase):
    def test_greatest_first_goes_wrong(self):
        # 60 with a 50 and three of 20: the 50 would leave 10.
        self.assertEqual(paid_back([50, 20], [1, 0], [0, 3], [1] * 3), (0, [1, 1, 1]))
        # 80 with 50 and 20s: 50 leaves 30.
        self.assertEqual(paid_back([50, 20], [1, 0], [0, 4], [1] * 4), (0, [1] * 4))
        # 110: 50 and three of 20.
        self.assertEqual(paid_back([50, 20], [1, 4], [1, 3], [1] * 4), (0, [0, 1, 1, 1]))

    def test_smaller_kind_first_where_it_stands_first(self):
        # Not the fewest coins: the first kind as long as it is in a payment.
        self.assertEqual(paid_back([1, 5], [10, 3], [0, 1], [1] * 5), (0, [0] * 5))
        self.assertEqual(paid_back([2, 5], [10, 3], [0, 3], [1] * 6), (0, [0] * 5 + [1]))
        self.assertEqual(paid_back([3, 4, 7], [2, 2, 2], [0, 0, 1], [1, 1]), (0, [0, 1]))

    def test_two_kinds_of_one_value(self):
        self.assertEqual(paid_back([10, 10], [0, 5], [2, 1], [1, 1, 1]), (0, [0, 0, 1]))
        self.assertEqual(paid_back([10, 10], [5, 0], [0, 2], [1, 1]), (0, [0, 0]))
        # The first sticks in the midst, the second goes on.
        self.assertEqual(paid_back([10, 10], [5, 0], [0, 3], [1, 0, 1, 1]), (0, [0, 0, 1, 1]))

    def test_a_kind_with_none_at_hand(self):
        # 50 came in and went out as change; a 20 and a 10 are left of it.
        setup = Setup([50, 20, 10], [0, 3, 3], [20], [9])
        told = [1, 0, 0, 1, 0, 0, 0]
        calls = run(start(setup, [0] * 7), cancel(told), cancel([1, 2, 1, 1, 0, 0, 0] + [1, 1, 1]))
        self.assertEqual([number for number, asked in calls], [0, 0, 0])
        self.assertEqual([paid(setup, call) for call in calls], [[], [], [1, 1, 2]])
        self.assertEqual(paid_back([20, 50, 30], [0, 0, 2], [0, 1, 0], [1]), (0, [1]))
        self.assertEqual(paid_back([10, 50], [0, 0], [0, 1], [1]), (0, [1]))

    def test_not_all_can_be_paid(self):
        # 50 in, 13 fell: of 37 a 20 and a 10 are the most.
        self.assertEqual(paid_back([50, 20, 10], [0, 1, 1], [1, 0, 0], [1, 1], 13, 1), (7, [1, 2]))
        # 49 due of 40 and three of 16: 48, not 40.
        self.assertEqual(paid_back([50, 40, 16], [0, 1, 3], [1, 0, 0], [1] * 3, 1, 1), (1, [2, 2, 2]))

    def test_another_amount_behind_a_kind_that_sticks(self):
        # 49 due, three of 16 the best; the second sticks: of 33 left the 40 is too much.
        self.assertEqual(paid_back([50, 40, 16], [0, 1, 3], [1, 0, 0], [1, 0], 1, 1), (33, [2, 2]))
        # The first sticks: the 40 is the best of 49.
        self.assertEqual(paid_back([50, 40, 16], [0, 1, 3], [1, 0, 0], [0, 1], 1, 1), (9, [2, 1]))

    def test_an_earlier_kind_comes_back_behind_one_that_sticks(self):
        # 13 in, 1 fell, 12 due: 7 and 5 (kinds 1, 2), not 10; the 7 sticks: now the 10.
        self.assertEqual(paid_back([10, 7, 5, 13], [1, 1, 1, 0], [0, 0, 0, 1], [0, 1], 1, 1), (2, [1, 0]))

    def test_a_value_above_the_credit(self):
        self.assertEqual(paid_back([10000, 1], [200, 0], [0, 3], [1] * 3), (0, [1] * 3))


class AgainstEveryPayment(unittest.TestCase):
    """All payments written out, and the words followed over them."""

    def expected(self, value, count, credit):
        """The kinds in order, no coin sticking."""
        order = []
        while True:
            payments = [many for many in itertools.product(*[range(coins + 1) for coins in count])
                        if sum(a * b for a, b in zip(value, many)) <= credit]
            amount = max(sum(a * b for a, b in zip(value, many)) for many in payments)
            if amount == 0:
                return credit, order
            kind = min(place for many in payments for place in range(len(value))
                       if many[place] and sum(a * b for a, b in zip(value, many)) == amount)
            order.append(kind)
            count[kind] -= 1
            credit -= value[kind]

    def test_drawn(self):
        draw = random.Random(5)
        for turn in range(300):
            kinds = draw.randint(1, 4)
            value = [draw.randint(1, 12) for kind in range(kinds)]
            came = [draw.randint(0, 2) for kind in range(kinds)]
            tube = [draw.randint(0, 2) for kind in range(kinds)]
            worth = sum(a * b for a, b in zip(value, came))
            fell = draw.randint(0, worth)
            left, order = self.expected(value, [a + b for a, b in zip(tube, came)], worth - fell)
            self.assertEqual(paid_back(value, tube, came, [1] * len(order), 1, min(fell, 200)), (left, order))


def largest(value, came, tube, fell=0, price=1):
    """A line with one start that pays back, and the model that made it."""
    setup = Setup(value, tube, [price], [200])
    world = World(len(value), 1)
    world.came = list(came)
    world.fell = [fell]
    model = Model(world)
    model.start(setup)
    return model


class Large(unittest.TestCase):
    """8 kinds, 400 at hand of each, a credit up to 20,000."""

    def test_every_coin_of_3200(self):
        setup = Setup(list(range(1, 9)), [0] * 8, [1], [0])
        told = [400] * 8 + [0] * 9
        calls = run(start(setup, told + [1] * 3200))
        self.assertEqual(calls[0][0], 0)
        self.assertEqual(paid(setup, calls[0]), [kind for kind in range(8) for coin in range(400)])

    def test_3200_coins_the_last_of_which_sticks(self):
        setup = Setup(list(range(1, 9)), [0] * 8, [1], [0])
        told = [400] * 8 + [0] * 9
        calls = run(start(setup, told + [1] * 3199 + [0]))
        self.assertEqual(calls[0][0], 8)
        self.assertEqual(shown(calls[0]), (8, 0, 127))

    def test_20000(self):
        value = [100, 99, 98, 51, 50, 49, 7, 3]
        model = largest(value, [200, 0, 0, 0, 0, 0, 0, 0], [200] * 8)
        self.assertEqual(split(answers(model.line())), model.expected)
        value.reverse()
        model = largest(value, [0, 0, 0, 0, 0, 0, 0, 200], [200] * 8, 13)
        self.assertEqual(split(answers(model.line())), model.expected)

    def test_20000_in_coins_of_odd_values(self):
        value = [7919, 6007, 4001, 3001, 2003, 1009, 503, 9973]
        model = largest(value, [0, 0, 0, 0, 0, 0, 0, 2], [200] * 8, 54, 1)
        self.assertEqual(split(answers(model.line())), model.expected)

    def test_400_at_hand_of_each(self):
        value = [3, 5, 7, 9, 11, 4, 6, 5]
        model = largest(value, [200, 190, 180, 200, 200, 200, 200, 200], [200, 200, 200, 200, 200, 200, 200, 200], 199, 4)
        self.assertEqual(split(answers(model.line())), model.expected)

    def test_each_number_of_coins(self):
        # Each number of coins up to 400 has to be found, not only round ones.
        for coins in (1, 2, 3, 127, 128, 129, 255, 256, 399, 400):
            setup = Setup([50, 1], [0, 0], [1], [200])
            self.assertEqual(run(start(setup, [0, coins, 0, 0, 0] + [1] * coins))[0][0], 0)

    def test_sixty_large_calls_are_quick(self):
        """A line of starts with all that is allowed, in which kind after kind sticks."""
        value = [2, 4, 6, 8, 10, 12, 14, 3]
        setup = Setup(value, [200] * 8, [9999], [200])
        came = [10, 100, 200, 200, 200, 200, 200, 100]
        self.assertLessEqual(sum(a * b for a, b in zip(value, came)), 20000)
        began = time.monotonic()
        calls = run(*[start(setup, came + [0] * 9 + [0] * 8) for turn in range(60)])
        spent = time.monotonic() - began
        self.assertEqual([number for number, asked in calls],
                         [sum(a * b for a, b in zip(value, came))] * 60)
        self.assertLess(spent, 20)


class Amounts(unittest.TestCase):
    """Each amount, at the edges of what is looked at too."""

    def check(self, value, tube, credit):
        """A coin of 10,000 came in, and a good fell whose price leaves this credit."""
        setup = Setup(value + [10000], tube + [0], [10000 - credit], [2])
        world = World(len(value) + 1, 1)
        world.came[-1] = 1
        world.fell = [1]
        model = Model(world)
        model.start(setup)
        self.assertEqual(split(answers(model.line())), model.expected)

    def test_many_credits(self):
        for credit in itertools.chain(range(0, 2101, 7), range(990, 1012), range(1990, 2012), range(9900, 10000)):
            self.check([700, 333, 90], [2, 3, 4], credit)

    def test_values_beside_the_thousands(self):
        for credit in itertools.chain(range(995, 1006), range(1995, 2006), range(2995, 3006), range(4995, 5006)):
            self.check([1000, 999], [3, 2], credit)
            self.check([1001, 1000, 1], [3, 2, 3], credit)
            self.check([2000, 1999, 500], [3, 2, 1], credit)

    def test_no_coins_but_too_great_ones(self):
        for credit in (0, 1, 999, 1000, 1001, 8999):
            self.check([9000], [5], credit)
            self.check([5], [0], credit)

    def test_the_model_by_hand(self):
        self.assertTrue(can_be_paid([50, 20], [1, 3], 60))
        self.assertFalse(can_be_paid([50, 20], [1, 2], 60))
        self.assertEqual(greatest([50, 20], [1, 2], 60), 50)
        self.assertEqual(greatest([50, 20], [0, 0], 60), 0)


if __name__ == "__main__":
    unittest.main()
