"""The corners that the document names."""

import unittest

from tests.lines import Setup, cancel, middle, paid, press, run, shown, start, tick
from tests.lines import DROP, PAY

NOTHING = [0, 0, 0, 0, 0]


class JustBeforeTheMouthClosed(unittest.TestCase):
    """A coin that came in behind what was shown last counts in the next call."""

    def setUp(self):
        self.setup = Setup([50, 20], [0, 9], [50], [9], 60)

    def test_press(self):
        calls = run(start(self.setup, NOTHING), tick([1, 0, 0, 0, 0]), press(0, [1, 1, 0, 0, 0] + [1, 1]))
        self.assertEqual(shown(calls[1]), (50, 1, 3))
        self.assertEqual((calls[2][0], middle(self.setup, calls[2])), (0, [(DROP, 0), (PAY, 1)]))

    def test_press_that_a_coin_of_a_stuck_kind_makes_impossible(self):
        # The 50 sticks; 50 are just the price. One more of the kind came in, and can't be given back.
        setup = Setup([50], [0], [50], [9])
        calls = run(start(setup, [0, 0, 0]), cancel([1, 0, 0] + [0]), press(0, [2, 0, 0]))
        self.assertEqual([shown(call) for call in calls], [(0, 0, 1), (50, 1, 0), (100, 0, 0)])
        self.assertEqual(calls[2][0], -33)

    def test_cancel(self):
        calls = run(start(self.setup, NOTHING), tick([1, 0, 0, 0, 0]), cancel([2, 0, 0, 0, 0] + [1, 1]))
        self.assertEqual((calls[2][0], paid(self.setup, calls[2])), (0, [0, 0]))

    def test_start(self):
        calls = run(start(self.setup, [1, 0, 0, 0, 0] + [1]))
        self.assertEqual((calls[0][0], paid(self.setup, calls[0])), (0, [0]))

    def test_above_most(self):
        calls = run(start(self.setup, NOTHING), tick([1, 0, 0, 0, 0]), tick([1, 1, 0, 0, 0]))
        self.assertEqual([shown(call)[2] for call in calls], [3, 3, 0])


class PowerWent(unittest.TestCase):
    """The call in which power went is in no line; the counters tell how far it came."""

    def setUp(self):
        self.setup = Setup([50, 20, 10], [0, 3, 1], [50], [9])

    def again(self, told):
        call = run(start(self.setup, [0] * 7), start(self.setup, told))[1]
        return call[0], paid(self.setup, call)

    def test_in_a_pay_the_coin_fell(self):
        # 100 in, 50 for a good, a 50 of the change fell: nothing is owed.
        self.assertEqual(self.again([2, 0, 0, 1, 0, 0, 1]), (0, []))

    def test_in_a_pay_the_coin_did_not_fall(self):
        self.assertEqual(self.again([2, 0, 0, 0, 0, 0, 1] + [1]), (0, [0]))

    def test_between_two_pays(self):
        # 120 in, 50 for a good, a 50 of the 70 fell: 20 more.
        self.assertEqual(self.again([2, 1, 0, 1, 0, 0, 1] + [1]), (0, [1]))

    def test_in_a_drop_the_good_fell(self):
        # 70 in, the good fell, no change yet.
        self.assertEqual(self.again([1, 1, 0, 0, 0, 0, 1] + [1]), (0, [1]))

    def test_in_a_drop_the_good_did_not_fall(self):
        self.assertEqual(self.again([1, 1, 0, 0, 0, 0, 0] + [1, 1]), (0, [0, 1]))

    def test_without_a_start_the_next_call_knows_too(self):
        calls = run(start(self.setup, [0] * 7), tick([2, 1, 0, 1, 0, 0, 1]), cancel([2, 1, 0, 1, 0, 0, 1] + [1]))
        self.assertEqual([number for number, asked in calls], [0, 20, 0])

    def test_the_last_good_fell_as_power_went(self):
        setup = Setup([50], [0], [50], [1])
        calls = run(start(setup, [0, 0, 0]), start(setup, [1, 0, 1]), press(0, [2, 0, 1]))
        self.assertEqual([number for number, asked in calls], [0, 0, -33])


class ChangeOfTheCoinJustPutIn(unittest.TestCase):
    def test_sold_with_it(self):
        # No coin is at hand but what came in: of 70 the 20 goes back.
        setup = Setup([50, 20], [0, 0], [50, 30], [9, 9])
        calls = run(start(setup, [0] * 6), tick([1, 0, 0, 0, 0, 0]), press(1, [1, 0, 0, 0, 0, 0]),
                    tick([1, 1, 0, 0, 0, 0]), press(0, [1, 1, 0, 0, 0, 0] + [1, 1]))
        self.assertEqual([number for number, asked in calls], [0, 50, -33, 70, 0])
        self.assertEqual([shown(call)[1] for call in calls], [0, 1, 1, 1, 0])
        self.assertEqual(middle(setup, calls[4]), [(DROP, 0), (PAY, 1)])


class SticksInTheMidst(unittest.TestCase):
    def test_of_eight_kinds(self):
        setup = Setup([200, 100, 50, 20, 10, 5, 2, 1], [0, 9, 9, 9, 9, 9, 9, 9], [1], [1])
        # 200 in: each kind pays one coin, then sticks; the 200 sticks at once.
        told = [1] + [0] * 16
        calls = run(start(setup, [0] * 17), cancel(told + [0, 1, 0, 1, 0, 1, 0, 1, 0, 1, 0, 1, 0, 1, 0]))
        self.assertEqual(paid(setup, calls[1]), [0, 1, 1, 2, 2, 3, 3, 4, 4, 5, 5, 6, 6, 7, 7])
        self.assertEqual((calls[1][0], shown(calls[1])), (12, (12, 0, 0)))

    def test_stays_stuck_in_later_calls(self):
        setup = Setup([20, 10], [0, 9], [10], [9])
        calls = run(start(setup, NOTHING), cancel([2, 0, 0, 0, 0] + [1, 0, 1, 1]), press(0, [3, 0, 1, 2, 0] + [1, 1]))
        self.assertEqual([paid(setup, call) for call in calls], [[], [0, 0, 1, 1], [1]])
        self.assertEqual([shown(call)[2] for call in calls], [3, 2, 2])


class LastOfTheGoods(unittest.TestCase):
    def test_sold_once(self):
        setup = Setup([10], [0], [10, 10], [1, 1])
        calls = run(start(setup, [0] * 4), tick([1, 0, 0, 0]), press(0, [1, 0, 0, 0] + [1]), tick([2, 0, 1, 0]),
                    press(0, [2, 0, 1, 0]), press(1, [2, 0, 1, 0] + [1]), tick([3, 0, 1, 1]))
        self.assertEqual([number for number, asked in calls], [0, 10, 0, 10, -33, 0, 10])
        self.assertEqual([shown(call)[1] for call in calls], [0, 3, 0, 2, 2, 0, 0])


class PriceIsJustTheCredit(unittest.TestCase):
    def test_sold_without_change(self):
        setup = Setup([50, 20], [0, 0], [70], [9])
        calls = run(start(setup, NOTHING), press(0, [1, 1, 0, 0, 0] + [1]))
        self.assertEqual((calls[1][0], middle(setup, calls[1])), (0, [(DROP, 0)]))

    def test_with_every_kind_stuck(self):
        setup = Setup([50], [0], [50], [9])
        calls = run(start(setup, [0, 0, 0]), cancel([1, 0, 0] + [0]), press(0, [1, 0, 0] + [1]))
        self.assertEqual([shown(call) for call in calls], [(0, 0, 1), (50, 1, 0), (0, 0, 0)])
        self.assertEqual(calls[2][0], 0)

    def test_10000(self):
        setup = Setup([10000], [0], [10000], [9])
        calls = run(start(setup, [0, 0, 0]), press(0, [1, 0, 0] + [1]), press(0, [3, 0, 1] + [1, 1]))
        self.assertEqual([number for number, asked in calls], [0, 0, 0])


class TwoStarts(unittest.TestCase):
    def test_nothing_between_them(self):
        setup = Setup([50, 20], [0, 0], [70], [9])
        calls = run(start(setup, [1, 1, 0, 0, 0] + [1, 1]), start(setup, [1, 1, 1, 1, 0]), start(setup, [1, 1, 1, 1, 0]))
        self.assertEqual([(number, paid(setup, (number, asked))) for number, asked in calls], [(0, [0, 1]), (0, []), (0, [])])

    def test_what_stuck_is_tried_again(self):
        setup = Setup([50], [0], [70], [9])
        calls = run(start(setup, [1, 0, 0] + [0]), start(setup, [1, 0, 0] + [0]), start(setup, [1, 0, 0] + [1]))
        self.assertEqual([(number, paid(setup, (number, asked))) for number, asked in calls],
                         [(50, [0]), (50, [0]), (0, [0])])


if __name__ == "__main__":
    unittest.main()
