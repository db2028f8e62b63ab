"""Point 2: press."""

import unittest

from tests.lines import DROP, PAY, SHOW, TAKE, Setup, cancel, counters, paid, press, run, shown, start, tick

# Kinds 50, 20, 10; slots of 60, 100, 30.
VALUE = [50, 20, 10]
PRICE = [60, 100, 30]
NOTHING = [0] * 9


def begun(tube, stock=(5, 5, 5), most=10000):
    return Setup(VALUE, tube, PRICE, stock, most)


def pressed(setup, slot, told):
    """What a press right behind a start with no credit answers."""
    return run(start(setup, NOTHING), press(slot, told))[1]


class NoSuchSlot(unittest.TestCase):
    def test_nothing_is_asked(self):
        setup = begun([0, 0, 0])
        for slot in (3, 4, 7, 8, 31, 32, 256, 4294967295):
            self.assertEqual(pressed(setup, slot, []), (-22, []))

    def test_the_last_slot_is_one(self):
        self.assertEqual(pressed(begun([0, 0, 0]), 2, NOTHING)[0], -33)

    def test_eight_slots(self):
        setup = Setup([1], [0], [1] * 8, [1] * 8)
        none = [0] * 10
        calls = run(start(setup, none), press(7, [1, 0] + [0] * 8 + [1]), press(8))
        self.assertEqual([number for number, asked in calls], [0, 0, -22])

    def test_nothing_changes(self):
        setup = begun([0, 0, 0])
        coins = [2, 0, 0] + [0] * 6
        stuck = [start(setup, NOTHING), press(1, coins + [0]), cancel(coins + [0])]
        calls = run(*stuck, tick(coins), press(3), tick(coins))
        self.assertEqual([number for number, asked in calls], [0, -5, 100, 100, -22, 100])
        self.assertEqual(calls[3], calls[5])
        self.assertEqual(shown(calls[5]), (100, 0, 6))


class NotForSale(unittest.TestCase):
    def refused(self, setup, slot, told, slots_shown):
        number, asked = pressed(setup, slot, told)
        credit = shown((number, asked))[0]
        self.assertEqual(number, -33)
        self.assertEqual(asked, counters(setup) + [(SHOW, credit, slots_shown), (TAKE, 7)])

    def test_nothing_left(self):
        self.refused(begun([0, 0, 0], (5, 0, 5)), 1, [2, 0, 0] + [0] * 6, 0)

    def test_the_last_one_fell(self):
        # Three of slot 1 were there, three fell, and 100 were paid anew.
        self.refused(begun([0, 0, 0], (5, 3, 5)), 1, [8, 0, 0, 0, 0, 0, 0, 3, 0], 0)

    def test_price_above_the_credit(self):
        self.refused(begun([9, 9, 9]), 1, [1, 2, 0] + [0] * 6, 0b101)
        self.refused(begun([9, 9, 9]), 0, [1, 0, 0] + [0] * 6, 0b100)

    def test_price_above_no_credit(self):
        self.refused(begun([9, 9, 9]), 2, NOTHING, 0)

    def test_price_one_above_the_credit(self):
        setup = Setup([1], [0], [4], [5])
        calls = run(start(setup, [0, 0, 0]), press(0, [3, 0, 0]), press(0, [4, 0, 0, 1]))
        self.assertEqual([number for number, asked in calls], [0, -33, 0])

    def test_change_that_cannot_be_paid(self):
        # 100 less 60: 40 of coins of 50 alone can't be paid.
        self.refused(begun([9, 0, 0]), 0, [2, 0, 0] + [0] * 6, 0b010)

    def test_change_with_too_few_coins(self):
        # 100 less 60: one of 20 and one of 10 are too few (but 100 less 30 is 50 and 20).
        self.refused(begun([9, 1, 1]), 0, [2, 0, 0] + [0] * 6, 0b110)

    def test_failed(self):
        setup = begun([0, 0, 0])
        coins = [2, 0, 0] + [0] * 6
        calls = run(start(setup, NOTHING), press(1, coins + [0]), press(1, coins))
        self.assertEqual(calls[2], (-33, counters(setup) + [(SHOW, 100, 0), (TAKE, 7)]))

    def test_change_of_a_kind_that_stuck(self):
        # The 20s stick in a cancel of 20 and 100; later 100 less 60 can only be paid with them.
        setup = begun([0, 5, 0])
        coins = [2, 1, 0] + [0] * 6
        calls = run(start(setup, NOTHING), cancel(coins + [1, 1, 0]), press(0, [4, 1, 0, 2, 0, 0, 0, 0, 0]))
        self.assertEqual(paid(setup, calls[1]), [0, 0, 1])
        self.assertEqual(calls[2], (-33, counters(setup) + [(SHOW, 120, 0), (TAKE, 5)]))


class MotorTurnsInVain(unittest.TestCase):
    def test_nothing_is_paid(self):
        setup = begun([5, 5, 5])
        number, asked = pressed(setup, 0, [2, 0, 0] + [0] * 6 + [0])
        self.assertEqual(number, -5)
        self.assertEqual(asked, counters(setup) + [(DROP, 0), (SHOW, 100, 0b110), (TAKE, 7)])

    def test_each_slot_fails_by_itself(self):
        setup = begun([5, 5, 5])
        coins = [2, 0, 0] + [0] * 6
        calls = run(start(setup, NOTHING), press(2, coins + [0]), press(0, coins + [0]), press(1, coins + [1]))
        self.assertEqual([number for number, asked in calls], [0, -5, -5, 0])
        self.assertEqual([shown(call)[1] for call in calls], [0, 0b011, 0b010, 0])


class Sold(unittest.TestCase):
    def test_change_comes_back(self):
        # 100 less 60: of 20 two.
        setup = begun([5, 5, 5])
        self.assertEqual(pressed(setup, 0, [2, 0, 0] + [0] * 6 + [1, 1, 1]),
                         (0, counters(setup) + [(DROP, 0), (PAY, 1), (PAY, 1), (SHOW, 0, 0), (TAKE, 7)]))

    def test_no_change_due(self):
        setup = begun([5, 5, 5])
        self.assertEqual(pressed(setup, 1, [2, 0, 0] + [0] * 6 + [1]),
                         (0, counters(setup) + [(DROP, 1), (SHOW, 0, 0), (TAKE, 7)]))

    def test_a_coin_sticks_and_another_kind_pays(self):
        # 40 due: a 20 falls, the next sticks, two of 10 fall.
        setup = begun([0, 5, 5])
        self.assertEqual(pressed(setup, 0, [2, 0, 0] + [0] * 6 + [1, 1, 0, 1, 1]),
                         (0, counters(setup) + [(DROP, 0), (PAY, 1), (PAY, 1), (PAY, 2), (PAY, 2), (SHOW, 0, 0), (TAKE, 5)]))

    def test_a_coin_sticks_and_a_part_stays(self):
        # 40 due: a 20 falls, the next sticks, one of 10 falls: 10 stay, and are shown.
        setup = begun([0, 5, 1])
        self.assertEqual(pressed(setup, 0, [2, 0, 0] + [0] * 6 + [1, 1, 0, 1]),
                         (10, counters(setup) + [(DROP, 0), (PAY, 1), (PAY, 1), (PAY, 2), (SHOW, 10, 0), (TAKE, 5)]))

    def test_first_coin_sticks_and_all_stays(self):
        setup = begun([0, 5, 0])
        self.assertEqual(pressed(setup, 0, [2, 0, 0] + [0] * 6 + [1, 0]),
                         (40, counters(setup) + [(DROP, 0), (PAY, 1), (SHOW, 40, 0), (TAKE, 5)]))

    def test_what_stays_may_buy_again(self):
        # 50 less 30 with the 20s stuck: 20 stay, with a 10 more they are the price of slot 2.
        setup = begun([0, 1, 0])
        calls = run(start(setup, NOTHING),
                    press(2, [1, 0, 0] + [0] * 6 + [1, 0]),
                    tick([1, 0, 1, 0, 0, 0, 0, 0, 1]),
                    press(2, [1, 0, 1, 0, 0, 0, 0, 0, 1] + [1]))
        self.assertEqual([number for number, asked in calls], [0, 20, 30, 0])
        self.assertEqual(shown(calls[2]), (30, 0b100, 5))
        self.assertEqual(shown(calls[3]), (0, 0, 5))

    def test_the_one_that_fell_is_not_for_sale_behind_it(self):
        # The last of slot 2 falls; the 30 that stay would be its price.
        setup = Setup([60, 30], [0, 1], [30], [1])
        calls = run(start(setup, [0] * 5), press(0, [1, 0, 0, 0, 0] + [1, 0]))
        self.assertEqual(shown(calls[1]), (30, 0, 1))
        setup = Setup([60, 30], [0, 1], [30], [2])
        calls = run(start(setup, [0] * 5), press(0, [1, 0, 0, 0, 0] + [1, 0]))
        self.assertEqual(shown(calls[1]), (30, 1, 1))


if __name__ == "__main__":
    unittest.main()
