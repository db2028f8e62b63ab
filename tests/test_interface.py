"""The interface: what is handed in, what is given back, and what is not done."""

import builtins
import contextlib
import inspect
import io
import random
import sys
import unittest
from unittest import mock

from honestslot import machine
from honestslot.machine import answers
from tests.drawn import Drawing
from tests.lines import Setup, cancel, press, split, start, tick


def some_lines(count):
    return [Drawing(random.Random(seed), "small").make(30).model.line() for seed in range(count)]


def longest_line():
    """A line of four starts, each with 3,200 coins to pay back, and of ticks behind them."""
    setup = Setup([1, 2, 3, 4, 5, 6, 7, 8], [0] * 8, [1], [0])
    calls = [start(setup, [400] * 8 + [0] * 9 + [1] * 3200) for turn in range(4)]
    calls += [tick([400] * 8 + [400] * 8 + [0]) for turn in range(56)]
    return [number for call in calls for number in call]


class Guarded(list):
    """A list that can't be changed."""

    def refuse(self, *rest, **more):
        raise AssertionError("what is handed in was changed")

    __setitem__ = __delitem__ = __iadd__ = __imul__ = refuse
    append = extend = insert = pop = remove = clear = sort = reverse = refuse


class Written(unittest.TestCase):
    """A line and its answers number by number, as the interface writes them."""

    LINE = [0, 2, 1, 100, 0,
            8, 50, 20, 0, 0, 0, 0, 0, 0,
            8, 1, 2, 0, 0, 0, 0, 0, 0,
            8, 30, 0, 0, 0, 0, 0, 0, 0,
            8, 4, 0, 0, 0, 0, 0, 0, 0,
            8, 5, 6, 0, 0, 0, 0, 0, 0,
            8, 1, 2, 0, 0, 0, 0, 0, 0,
            8, 3, 0, 0, 0, 0, 0, 0, 0,
            6, 6, 6, 1, 2, 3, 1,
            3, 5, 7, 6, 2, 2, 3,
            1, 0, 7, 7, 6, 2, 2, 3, 1, 1,
            1, 1, 0,
            1, 0, 5, 7, 6, 2, 3, 4,
            2, 7, 8, 6, 2, 3, 4, 0, 1]

    ANSWERS = [21, 0, 9, 1, 0, 2, 0, 2, 1, 3, 0, 3, 1, 4, 0, 5, 0, 7, 0, 0, 1, 3,
               19, 50, 8, 1, 0, 2, 0, 2, 1, 3, 0, 3, 1, 4, 0, 7, 50, 1, 1, 3,
               23, 0, 10, 1, 0, 2, 0, 2, 1, 3, 0, 3, 1, 4, 0, 6, 0, 5, 1, 7, 0, 0, 1, 3,
               2, -22, 0,
               19, -33, 8, 1, 0, 2, 0, 2, 1, 3, 0, 3, 1, 4, 0, 7, 0, 0, 1, 3,
               23, 30, 10, 1, 0, 2, 0, 2, 1, 3, 0, 3, 1, 4, 0, 5, 0, 5, 1, 7, 30, 1, 1, 2]

    def test_a_line(self):
        self.assertEqual(answers(list(self.LINE)), self.ANSWERS)

    def test_a_motor_that_turns_in_vain(self):
        line = self.LINE[:75] + [1, 0, 6, 7, 6, 2, 2, 3, 0]
        self.assertEqual(answers(line)[22:],
                         [21, -5, 9, 1, 0, 2, 0, 2, 1, 3, 0, 3, 1, 4, 0, 6, 0, 7, 50, 0, 1, 3])

    def test_one_refused_call(self):
        self.assertEqual(answers([0, 0] + self.LINE[2:68] + [0]), [2, -22, 0])


class GivenBack(unittest.TestCase):
    def test_whole_numbers_in_a_list(self):
        for line in some_lines(40):
            given = answers(line)
            self.assertIs(type(given), list)
            self.assertEqual({type(number) for number in given}, {int})

    def test_name_and_argument(self):
        self.assertEqual(list(inspect.signature(machine.answers).parameters), ["calls"])
        line = some_lines(1)[0]
        self.assertEqual(answers(calls=line), answers(line))


class HandedIn(unittest.TestCase):
    def test_is_the_same_afterwards(self):
        for line in some_lines(40):
            before = list(line)
            answers(line)
            self.assertEqual(line, before)

    def test_is_not_changed_for_a_while_either(self):
        for line in some_lines(40):
            self.assertEqual(answers(Guarded(line)), answers(line))

    def test_what_is_given_back_is_not_what_was_handed_in(self):
        line = some_lines(1)[0]
        before = list(line)
        answers(line).clear()
        self.assertEqual(line, before)


class NothingIsKept(unittest.TestCase):
    def test_twice_alike(self):
        for line in some_lines(40):
            self.assertEqual(answers(line), answers(line))

    def test_with_others_between(self):
        lines = some_lines(20)
        first = [answers(line) for line in lines]
        self.assertEqual([answers(line) for line in reversed(lines)], first[::-1])

    def test_what_stuck_and_failed_in_another_line(self):
        setup = Setup([50], [0], [50], [9])
        plain = start(setup, [0, 0, 0]) + press(0, [1, 0, 0, 1])
        before = answers(plain)
        answers(start(setup, [0, 0, 0]) + press(0, [1, 0, 0, 0]) + cancel([1, 0, 0, 0]))
        self.assertEqual(answers(plain), before)

    def test_what_is_given_back_may_be_changed(self):
        line = some_lines(1)[0]
        first = answers(line)
        kept = list(first)
        first.append(1)
        first[0] = 99
        self.assertEqual(answers(line), kept)


class NothingElseIsDone(unittest.TestCase):
    def test_nothing_is_printed_read_or_imported(self):
        lines = some_lines(10)
        refused = mock.Mock(side_effect=AssertionError("not to be called"))
        out, errors = io.StringIO(), io.StringIO()
        modules = sorted(sys.modules)
        with contextlib.redirect_stdout(out), contextlib.redirect_stderr(errors):
            with mock.patch.object(builtins, "open", refused), mock.patch.object(builtins, "input", refused), \
                    mock.patch.object(builtins, "print", refused), mock.patch.object(builtins, "__import__", refused):
                for line in lines:
                    answers(line)
        self.assertEqual((out.getvalue(), errors.getvalue()), ("", ""))
        self.assertEqual(sorted(sys.modules), modules)

    def test_long_lines_are_gone_through_by_loops(self):
        line = longest_line()
        self.assertLessEqual(len(line), 16000)
        deep = sys.getrecursionlimit()
        sys.setrecursionlimit(len(inspect.stack()) + 60)
        try:
            given = answers(line)
        finally:
            sys.setrecursionlimit(deep)
        self.assertEqual([number for number, asked in split(given)], [0] * 60)
        self.assertLess(len(given), 1000000)


if __name__ == "__main__":
    unittest.main()
