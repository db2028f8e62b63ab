"""Point 1: start."""

import unittest

from tests.lines import IN, OUT, FELL, OTHER, PAY, SHOW, TAKE, Setup, cancel, counters, paid, press, run, shown, start, tick

HIGHEST = 4294967295


def plain(**changed):
    told = dict(value=[50, 20, 10], tube=[2, 3, 4], price=[60, 100], stock=[1, 5], most=200)
    told.update(changed)
    return Setup(**told)


NOTHING = [0, 0, 0, 0, 0, 0, 0, 0]


class AsTold(unittest.TestCase):
    def test_nothing_owed(self):
        [(number, asked)] = run(start(plain(), NOTHING))
        self.assertEqual(number, 0)
        self.assertEqual(asked, [(TAKE, 0), (IN, 0), (IN, 1), (IN, 2), (OUT, 0), (OUT, 1), (OUT, 2), (FELL, 0), (FELL, 1),
                                 (SHOW, 0, 0), (TAKE, 7)])

    def test_credit_is_paid_back(self):
        # 50 and 20 came in: they go back, the first kind first.
        [(number, asked)] = run(start(plain(), [1, 1, 0, 0, 0, 0, 0, 0, 1, 1]))
        self.assertEqual(number, 0)
        self.assertEqual(asked, counters(plain()) + [(PAY, 0), (PAY, 1), (SHOW, 0, 0), (TAKE, 7)])

    def test_counters_that_went_on_before_do_not_count(self):
        setup = plain(in0=[100, 200, 300], out0=[90, 180, 270], fell0=[5, 6])
        calls = run(start(setup, [101, 200, 300, 90, 180, 270, 5, 6, 1]))
        self.assertEqual(calls[0][0], 0)
        self.assertEqual(paid(setup, calls[0]), [0])

    def test_counters_up_to_the_last_number(self):
        top = 2 ** 64 - 1
        setup = plain(in0=[top - 1, top, 0], out0=[top, top, top], fell0=[top, top - 1])
        # 50 and 11 times 10 came in, a good of 100 fell: 60 are owed, 50 and 10 pay them.
        calls = run(start(setup, [top, top, 11, top, top, top, top, top, 1, 1]))
        self.assertEqual(calls[0][0], 0)
        self.assertEqual(paid(setup, calls[0]), [0, 2])

    def test_what_cannot_be_paid_stays(self):
        # Two of 20 came in, one went back and a good of 10 fell: 10 are owed, nothing below 20 is at hand.
        setup = Setup([50, 20, 10], [1, 1, 0], [10], [3])
        calls = run(start(setup, [0, 2, 0, 0, 1, 0, 1]))
        self.assertEqual(calls[0], (10, counters(setup) + [(SHOW, 10, 1), (TAKE, 7)]))

    def test_a_part_that_can_be_paid_is_paid(self):
        # 30 are owed: one of 20 is paid, 10 stay.
        setup = Setup([50, 20], [1, 0], [20], [3])
        calls = run(start(setup, [1, 0, 0, 0, 1]))
        self.assertEqual(calls[0], (30, counters(setup) + [(SHOW, 30, 0), (TAKE, 3)]))
        calls = run(start(setup, [1, 1, 0, 0, 2, 1]))
        self.assertEqual(calls[0], (10, counters(setup) + [(PAY, 1), (SHOW, 10, 0), (TAKE, 3)]))

    def test_every_kind_sticks(self):
        setup = plain()
        calls = run(start(setup, [1, 0, 0, 0, 0, 0, 0, 0, 0, 0, 0]))
        self.assertEqual(paid(setup, calls[0]), [0, 1, 2])
        self.assertEqual(calls[0][0], 50)
        self.assertEqual(shown(calls[0]), (50, 0, 0))


def edges():
    """Setups at the edges of what is told, each with how many counters there are."""
    yield "one kind", Setup([1], [0], [1], [0], 1)
    yield "least", Setup([1] * 8, [0] * 8, [1] * 8, [0] * 8, 1)
    yield "most", Setup([10000] * 8, [200] * 8, [10000] * 8, [200] * 8, 10000)
    yield "eight kinds, one slot", Setup([3] * 8, [200] * 8, [7], [200])
    yield "one kind, eight slots", Setup([3], [200], [7] * 8, [200] * 8)


class Edges(unittest.TestCase):
    def test_setups_at_the_edges_are_taken(self):
        for name, setup in edges():
            with self.subTest(name):
                told = [0] * (2 * setup.kinds + setup.slots)
                [(number, asked)] = run(start(setup, told))
                self.assertEqual(number, 0)
                self.assertEqual(asked, counters(setup) + [(SHOW, 0, 0), (TAKE, 2 ** setup.kinds - 1)])

    def test_other_kinds_and_slots_are_not_looked_at(self):
        for other in (0, 1, 10001, OTHER):
            setup = plain()
            setup.value += [other] * 5
            setup.tube += [other] * 5
            setup.price += [other] * 6
            setup.stock += [other] * 6
            setup.in0 += [other] * 5
            setup.out0 += [other] * 5
            setup.fell0 += [other] * 6
            calls = run(start(setup, [1, 0, 0, 0, 0, 0, 0, 0, 1]), tick([2, 0, 0, 1, 0, 0, 0, 0]))
            self.assertEqual([number for number, asked in calls], [0, 50])
            self.assertEqual(paid(setup, calls[0]), [0])
            self.assertEqual(shown(calls[1]), (50, 0, 7))


class NotAsTold(unittest.TestCase):
    def refused(self, setup):
        self.assertEqual(run(start(setup)), [(-22, [])])

    def test_kinds(self):
        for kinds in (0, 9, HIGHEST):
            setup = plain()
            setup.kinds = kinds
            self.refused(setup)

    def test_kinds_in_a_full_setup(self):
        setup = Setup([1] * 8, [0] * 8, [1] * 8, [0] * 8)
        setup.kinds = 9
        self.refused(setup)

    def test_slots(self):
        for slots in (0, 9, HIGHEST):
            setup = Setup([1] * 8, [0] * 8, [1] * 8, [0] * 8)
            setup.slots = slots
            self.refused(setup)

    def test_most(self):
        for most in (0, 10001, HIGHEST):
            self.refused(plain(most=most))

    def test_none(self):
        for none in (1, 2, 256, HIGHEST):
            self.refused(plain(none=none))

    def test_one_number_of_a_row(self):
        """Each place of each row that is looked at, below and above what is told."""
        wrong = dict(value=(0, 10001, HIGHEST), tube=(201, HIGHEST), price=(0, 10001, HIGHEST), stock=(201, HIGHEST))
        for row, numbers in wrong.items():
            for size in (1, 3, 8):
                for place in range(size):
                    for number in numbers:
                        with self.subTest(row=row, size=size, place=place, number=number):
                            setup = Setup([5] * size, [5] * size, [5] * size, [5] * size)
                            getattr(setup, row)[place] = number
                            self.refused(setup)

    def test_kinds_and_slots_each_have_their_own_rows(self):
        # With more kinds than slots a wrong price behind the slots is nothing; and the other way round.
        setup = Setup([5] * 4, [5] * 4, [5] * 2, [5] * 2)
        setup.price += [0, 0]
        setup.stock += [201, 201]
        self.assertEqual(run(start(setup, [0] * 10))[0][0], 0)
        setup = Setup([5] * 2, [5] * 2, [5] * 4, [5] * 4)
        setup.value += [0, 0]
        setup.tube += [201, 201]
        self.assertEqual(run(start(setup, [0] * 8))[0][0], 0)


class Again(unittest.TestCase):
    def test_first_starts_refused(self):
        calls = run(start(plain(most=0)), start(plain(none=1)), start(plain(), NOTHING))
        self.assertEqual([number for number, asked in calls], [-22, -22, 0])
        self.assertEqual(calls[2][1], counters(plain()) + [(SHOW, 0, 0), (TAKE, 7)])

    def test_second_start_has_its_own_setup(self):
        other = Setup([30], [0], [10], [9], in0=[4], out0=[2], fell0=[7])
        calls = run(start(plain(), NOTHING), start(other, [5, 2, 7, 1]), tick([6, 3, 7]))
        self.assertEqual(calls[1], (0, counters(other) + [(PAY, 0), (SHOW, 0, 0), (TAKE, 1)]))
        self.assertEqual(calls[2], (30, counters(other) + [(SHOW, 30, 0), (TAKE, 1)]))

    def test_second_start_forgets_what_stuck_and_failed(self):
        setup = Setup([20, 10], [0, 3], [10, 30], [5, 5])
        calls = run(start(setup, [0, 0, 0, 0, 0, 0]),
                    press(0, [2, 0, 0, 0, 0, 0] + [0]),
                    cancel([2, 0, 0, 0, 0, 0] + [0, 1, 1, 1]),
                    start(setup, [2, 0, 0, 3, 0, 0]),
                    start(setup, [2, 1, 0, 3, 0, 0] + [1]))
        self.assertEqual([number for number, asked in calls], [0, -5, 10, 10, 0])
        self.assertEqual(shown(calls[1]), (40, 2, 3))
        self.assertEqual(shown(calls[2]), (10, 0, 2))
        self.assertEqual(shown(calls[3]), (10, 1, 3))
        self.assertEqual(paid(setup, calls[4]), [0])

    def test_refused_start_changes_nothing(self):
        # Kind 0 stuck and slot 1 failed before it, and still are behind it; the setup is the first one.
        setup = plain(tube=[2, 0, 0])
        wrong = Setup([7], [1], [1], [201])
        coins = [4, 0, 0, 0, 0, 0, 0, 0]
        line = [start(setup, NOTHING), press(1, [2] + [0] * 7 + [0]), cancel(coins + [0])]
        calls = run(*line, tick(coins), start(wrong), tick(coins))
        self.assertEqual([number for number, asked in calls], [0, -5, 200, 200, -22, 200])
        self.assertEqual(calls[4], (-22, []))
        self.assertEqual(calls[5], calls[3])
        self.assertEqual(shown(calls[5]), (200, 0, 0))


if __name__ == "__main__":
    unittest.main()
