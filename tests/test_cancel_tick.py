"""Point 3: cancel and tick."""

import unittest

from tests.lines import PAY, SHOW, TAKE, Setup, cancel, counters, paid, run, shown, start, tick

VALUE = [50, 20, 10]
NOTHING = [0] * 7


def begun(tube, most=10000):
    return Setup(VALUE, tube, [60], [5], most)


def cancelled(setup, told):
    return run(start(setup, NOTHING), cancel(told))[1]


class Cancel(unittest.TestCase):
    def test_nothing_to_pay(self):
        setup = begun([5, 5, 5])
        self.assertEqual(cancelled(setup, NOTHING), (0, counters(setup) + [(SHOW, 0, 0), (TAKE, 7)]))

    def test_all_is_paid_back(self):
        # 10 six times: a 50 and a 10 go out.
        setup = begun([5, 5, 5])
        self.assertEqual(cancelled(setup, [0, 0, 6, 0, 0, 0, 0] + [1, 1]),
                         (0, counters(setup) + [(PAY, 0), (PAY, 2), (SHOW, 0, 0), (TAKE, 7)]))

    def test_the_very_coins_that_came_in(self):
        setup = begun([0, 0, 0])
        self.assertEqual(cancelled(setup, [1, 2, 3, 0, 0, 0, 0] + [1] * 6),
                         (0, counters(setup) + [(PAY, 0), (PAY, 1), (PAY, 1), (PAY, 2), (PAY, 2), (PAY, 2),
                                                (SHOW, 0, 0), (TAKE, 7)]))

    def test_a_part_stays(self):
        # A 50 and a 20 came in, a good of 60 fell, and 10 are due: nothing at hand is as small.
        setup = begun([1, 1, 0])
        self.assertEqual(cancelled(setup, [1, 1, 0, 0, 0, 0, 1]), (10, counters(setup) + [(SHOW, 10, 0), (TAKE, 7)]))
        # 30 are due: a 20 is paid, 10 stay.
        self.assertEqual(cancelled(setup, [1, 2, 0, 0, 0, 0, 1] + [1]),
                         (10, counters(setup) + [(PAY, 1), (SHOW, 10, 0), (TAKE, 7)]))

    def test_a_kind_sticks(self):
        setup = begun([0, 5, 5])
        self.assertEqual(cancelled(setup, [1, 0, 0, 0, 0, 0, 0] + [0, 1, 1, 1]),
                         (0, counters(setup) + [(PAY, 0), (PAY, 1), (PAY, 1), (PAY, 2), (SHOW, 0, 0), (TAKE, 6)]))

    def test_kinds_stick_one_behind_another(self):
        setup = begun([0, 5, 2])
        self.assertEqual(cancelled(setup, [1, 0, 0, 0, 0, 0, 0] + [0, 0, 1, 1]),
                         (30, counters(setup) + [(PAY, 0), (PAY, 1), (PAY, 2), (PAY, 2), (SHOW, 30, 0), (TAKE, 4)]))

    def test_all_kinds_stick(self):
        setup = begun([5, 5, 5])
        self.assertEqual(cancelled(setup, [1, 0, 1, 0, 0, 0, 0] + [0, 0, 0]),
                         (60, counters(setup) + [(PAY, 0), (PAY, 1), (PAY, 2), (SHOW, 60, 1), (TAKE, 0)]))

    def test_what_stuck_is_not_asked_again(self):
        setup = begun([0, 0, 0])
        coins = [1, 0, 0, 0, 0, 0, 0]
        calls = run(start(setup, NOTHING), cancel(coins + [0]), cancel(coins), tick(coins))
        self.assertEqual([paid(setup, call) for call in calls], [[], [0], [], []])
        self.assertEqual([number for number, asked in calls], [0, 50, 50, 50])
        self.assertEqual(shown(calls[2]), (50, 0, 6))


class Tick(unittest.TestCase):
    def test_no_credit(self):
        setup = begun([5, 5, 5])
        calls = run(start(setup, NOTHING), tick(NOTHING))
        self.assertEqual(calls[1], (0, counters(setup) + [(SHOW, 0, 0), (TAKE, 7)]))

    def test_credit_is_told_and_nothing_is_paid(self):
        setup = begun([5, 5, 5])
        calls = run(start(setup, NOTHING), tick([1, 0, 0] + [0] * 4), tick([1, 1, 0] + [0] * 4), tick([1, 1, 0] + [0] * 4))
        self.assertEqual(calls[1], (50, counters(setup) + [(SHOW, 50, 0), (TAKE, 7)]))
        self.assertEqual(calls[2], (70, counters(setup) + [(SHOW, 70, 1), (TAKE, 7)]))
        self.assertEqual(calls[3], calls[2])

    def test_credit_by_the_counters_alone(self):
        # 4 of 50 came in, a 20 and two of 10 went out, two of 60 fell: 200 less 40 less 120.
        setup = begun([5, 5, 5])
        calls = run(start(setup, NOTHING), tick([4, 0, 0, 0, 1, 2, 2]))
        self.assertEqual(calls[1][0], 40)

    def test_the_most_that_can_be_credit(self):
        setup = Setup([10000, 1], [0, 0], [10000, 1], [1, 1])
        calls = run(start(setup, [0] * 6), tick([2, 0, 0, 0, 0, 0]), cancel([2, 0, 0, 0, 0, 0] + [1, 1]))
        self.assertEqual([number for number, asked in calls], [0, 20000, 0])
        self.assertEqual(shown(calls[1]), (20000, 1, 0))


if __name__ == "__main__":
    unittest.main()
