"""What each call asks first and last: counters in their order, show, take."""

import unittest

from tests.lines import DROP, FELL, IN, OUT, PAY, SHOW, TAKE, Setup, cancel, press, run, shown, start, tick


class Order(unittest.TestCase):
    def test_two_kinds_three_slots(self):
        setup = Setup([5, 2], [0, 9], [3, 4, 9], [9, 9, 9])
        first = [(TAKE, 0), (IN, 0), (IN, 1), (OUT, 0), (OUT, 1), (FELL, 0), (FELL, 1), (FELL, 2)]
        coin = [1, 0, 0, 0, 0, 0, 0]
        calls = run(start(setup, [0] * 7), tick(coin), press(0, coin + [1, 1]), press(1, [2, 0, 0, 1, 1, 0, 0]),
                    press(0, [2, 0, 0, 1, 1, 0, 0] + [0]), cancel([2, 0, 0, 1, 1, 0, 0] + [1]))
        self.assertEqual(calls, [
            (0, first + [(SHOW, 0, 0), (TAKE, 3)]),
            (5, first + [(SHOW, 5, 1), (TAKE, 3)]),
            (0, first + [(DROP, 0), (PAY, 1), (SHOW, 0, 0), (TAKE, 3)]),
            (-33, first + [(SHOW, 5, 1), (TAKE, 3)]),
            (-5, first + [(DROP, 0), (SHOW, 5, 0), (TAKE, 3)]),
            (0, first + [(PAY, 0), (SHOW, 0, 0), (TAKE, 3)]),
        ])

    def test_what_each_counter_tells_stands_for_its_kind_or_slot(self):
        # Each number told is another, so that none can stand for another.
        setup = Setup([1000, 100, 10], [10, 10, 10], [2, 3], [100, 100], in0=[10, 20, 30], out0=[40, 50, 60], fell0=[70, 80])
        calls = run(start(setup, [10, 20, 30, 40, 50, 60, 70, 80]), tick([17, 26, 35, 44, 53, 62, 79, 81]))
        self.assertEqual(calls[1][0], 7000 + 600 + 50 - 4000 - 300 - 20 - 18 - 3)


class Show(unittest.TestCase):
    def test_slots_are_bits(self):
        setup = Setup([1], [200], [5, 6, 7, 8, 4, 3, 9, 1], [1, 0, 1, 1, 1, 0, 1, 1])
        calls = run(start(setup, [0] * 10), tick([7, 0] + [0] * 8), tick([8, 0] + [0] * 8), tick([9, 0] + [0] * 8))
        self.assertEqual([shown(call)[:2] for call in calls],
                         [(0, 0), (7, 0b10010101), (8, 0b10011101), (9, 0b11011101)])

    def test_only_what_change_allows(self):
        setup = Setup([50, 20], [0, 1], [50, 40, 30, 10], [1, 1, 1, 1])
        none = [0] * 8
        # Of 50 change of 0 and 20 can be paid with what is at hand (10 and 40 can't).
        calls = run(start(setup, none), tick([1, 0] + [0] * 6))
        self.assertEqual(shown(calls[1]), (50, 0b0101, 3))

    def test_behind_what_is_paid(self):
        # Coins that went out in the call don't count as change any more, and goods that fell aren't left.
        setup = Setup([10, 7], [0, 0], [3, 10], [2, 2])
        calls = run(start(setup, [0] * 6), press(1, [2, 0, 0, 0, 0, 0] + [1, 0]))
        self.assertEqual(calls[1][0], 10)
        self.assertEqual(shown(calls[1]), (10, 0b10, 2))


class Take(unittest.TestCase):
    def taken(self, most, coins):
        setup = Setup([10, 1], [0, 0], [9000], [0], most)
        return shown(run(start(setup, [0] * 5), tick([0, coins, 0, 0, 0]))[1])[2]

    def test_credit_below_at_and_above_most(self):
        self.assertEqual(self.taken(30, 29), 3)
        self.assertEqual(self.taken(30, 30), 0)
        self.assertEqual(self.taken(30, 31), 0)

    def test_most_of_one(self):
        self.assertEqual(self.taken(1, 0), 3)
        self.assertEqual(self.taken(1, 1), 0)

    def test_by_the_credit_that_is_left(self):
        setup = Setup([10, 1], [0, 0], [1], [9], 10)
        calls = run(start(setup, [0] * 5), tick([1, 0, 0, 0, 0]), cancel([1, 0, 0, 0, 0] + [1]))
        self.assertEqual([shown(call)[2] for call in calls], [3, 0, 3])

    def test_kinds_that_stuck_are_not_let_in(self):
        setup = Setup([1] * 8, [1] * 8, [9], [0], 2)
        one = [1] + [0] * 16
        calls = run(start(setup, [0] * 17), cancel(one + [0, 0, 0, 1]), tick([1] + [0] * 7 + [0, 0, 0, 1] + [0] * 5),
                    tick([2] + [0] * 7 + [0, 0, 0, 1] + [0] * 5), tick([3] + [0] * 7 + [0, 0, 0, 1] + [0] * 5))
        self.assertEqual([shown(call)[2] for call in calls], [255, 0b11111000, 0b11111000, 0b11111000, 0])

    def test_eight_kinds(self):
        setup = Setup([1] * 8, [0] * 8, [9], [0])
        self.assertEqual(shown(run(start(setup, [0] * 17))[0])[2], 255)


if __name__ == "__main__":
    unittest.main()
