"""What holds, over many drawn lines."""

import random
import unittest

from honestslot.machine import answers
from tests.drawn import Drawing
from tests.lines import DROP, FELL, IN, OUT, PAY, SHOW, TAKE, Setup, press, run, shown, split, start, told_count


class Money:
    """The coins and goods of one setup, by what the counters and what was asked tell."""

    def __init__(self, setup):
        self.setup = setup
        self.known = {}
        self.stuck = set()

    def since(self, function, which):
        first = {IN: self.setup.in0, OUT: self.setup.out0, FELL: self.setup.fell0}[function]
        return self.known[function, which] - first[which]

    def owed(self):
        kinds, slots = range(self.setup.kinds), range(self.setup.slots)
        return (sum(self.setup.value[k] * (self.since(IN, k) - self.since(OUT, k)) for k in kinds)
                - sum(self.setup.price[s] * self.since(FELL, s) for s in slots))

    def at_hand(self, kind):
        return self.setup.tube[kind] + self.since(IN, kind) - self.since(OUT, kind)

    def hear(self, function, which, told):
        """One thing that was asked, and what was told."""
        if function in (IN, OUT, FELL):
            self.known[function, which] = told
        elif told == 0:
            if function == PAY:
                self.stuck.add(which)
        else:
            self.known[OUT if function == PAY else FELL, which] += 1


def replay(test, money, call, number, asked):
    """Goes through what a call asked: at each moment nobody got more than was paid."""
    told = iter(call[len(call) - told_count(call):])
    counted = 1 + 2 * money.setup.kinds + money.setup.slots
    for place, (function, which, *slots) in enumerate(asked):
        if function not in (TAKE, SHOW):
            money.hear(function, which, next(told))
        if place >= counted:
            test.assertGreaterEqual(money.owed(), 0)
    test.assertEqual(list(told), [])
    test.assertEqual(shown((number, asked))[0], money.owed())
    if number >= 0:
        test.assertEqual(number, money.owed())
    if number >= 0 and call[0] != 3:
        for kind in range(money.setup.kinds):
            if kind not in money.stuck and money.at_hand(kind) > 0:
                test.assertLess(number, money.setup.value[kind])


def check_line(test, drawing):
    line = drawing.model.line()
    test.assertLessEqual(len(line), 16000)
    answered = split(answers(line))
    test.assertEqual(answered, drawing.model.expected)
    money = None
    for call, setup, (number, asked) in zip(drawing.model.calls, drawing.setups, answered, strict=True):
        if number == -22:
            test.assertEqual(asked, [])
            continue
        if call[0] == 0:
            money = Money(setup)
        replay(test, money, call, number, asked)


class Drawn(unittest.TestCase):
    def test_small_lines(self):
        for seed in range(1500):
            with self.subTest(seed):
                draw = random.Random(seed)
                check_line(self, Drawing(draw, "small").make(draw.choice([1, 2, 5, 20, 60])))

    def test_large_lines(self):
        for seed in range(150):
            with self.subTest(seed):
                draw = random.Random(1000 + seed)
                check_line(self, Drawing(draw, "large").make(draw.choice([2, 10, 60])))

    def test_drawn_lines_hold_what_is_to_be_tried(self):
        """That the drawing comes to every answer, to kinds that stick and to change that can't be paid."""
        seen = set()
        for seed in range(60):
            draw = random.Random(seed)
            drawing = Drawing(draw, "small").make(60)
            for call, (number, asked) in zip(drawing.model.calls, drawing.model.expected):
                functions = [ask[0] for ask in asked]
                seen.add((call[0], number if number < 0 else min(number, 1), PAY in functions, DROP in functions))
        wanted = {(0, -22, False, False), (0, 0, True, False), (0, 1, True, False), (1, -22, False, False),
                  (1, -33, False, False), (1, -5, False, True), (1, 0, True, True), (1, 0, False, True),
                  (1, 1, True, True), (2, 0, True, False), (2, 1, True, False), (3, 0, False, False), (3, 1, False, False)}
        self.assertEqual(wanted - seen, set())


class ShownCanBeBought(unittest.TestCase):
    def test_each_slot_at_each_credit(self):
        """Each slot pressed right behind a start that shows what stayed credit."""
        # A 100 came in and a good fell, so that 30 stay: no coin at hand is as small.
        setup = Setup([100, 50], [0, 3], [70, 30, 10, 20], [5, 5, 5, 0])
        told = [1, 0, 0, 0, 1, 0, 0, 0]
        first = start(setup, told)
        slots = shown(run(first)[0])[1]
        self.assertEqual(slots, 0b0010)
        for slot in range(4):
            if slots >> slot & 1:
                self.assertEqual(run(first, press(slot, told + [1]))[1][0], 0)
            else:
                self.assertEqual(run(first, press(slot, told))[1][0], -33)


if __name__ == "__main__":
    unittest.main()
