"""Promises 3 to 6 over many small worlds, against the second model."""

import random
import unittest

from asking import RIGHTS
from onebreath.rounds import after, period
from onebreath.running import beats, ends, waits
from slow_model import slow_after, slow_beats, slow_ends, slow_period, slow_waits

BEATS = 160


def some_step(source, cap):
    draw = source.randint(0, cap)
    return (draw, source.randint(1, 3), source.choice((0, draw, draw, source.randint(0, draw))))


def some_world(source):
    cap = source.choice((1, 2, 3, 4, 6, 9))
    store = (cap, source.randint(0, cap), source.choice((0, 0, 1, 1, 2, 3)))
    machines = []
    for _ in range(source.randint(0, 5)):
        machines.append(tuple([some_step(source, cap) for _ in range(source.choice((0, 1, 1, 2, 2, 3)))]))
    return (store, tuple(machines))


class SecondModelTest(unittest.TestCase):
    def setUp(self):
        # The same seed each time: the worlds are many, but they are always these.
        source = random.Random(20)
        rules = [(right, passing) for right in RIGHTS for passing in (True, False)]
        self.asked = [(some_world(source), rules[at % 8]) for at in range(240)]

    def test_beats(self):
        for world, rule in self.asked:
            with self.subTest(world=world, rule=rule):
                self.assertEqual(beats(world, rule, 60), slow_beats(world, rule, 60))

    def test_ends_and_waits(self):
        for world, rule in self.asked:
            with self.subTest(world=world, rule=rule):
                self.assertEqual(ends(world, rule), slow_ends(world, rule, BEATS))
                self.assertEqual(waits(world, rule), slow_waits(world, rule, BEATS))

    def test_rounds(self):
        compared = 0
        for world, rule in self.asked:
            wanted = slow_period(world, rule, BEATS)
            if wanted is not None:
                compared += 1
                with self.subTest(world=world, rule=rule):
                    self.assertEqual(period(world, rule), wanted)
        self.assertGreater(compared, 200)

    def test_after(self):
        for world, rule in self.asked:
            with self.subTest(world=world, rule=rule):
                for many in (1, 13, BEATS):
                    self.assertEqual(after(world, rule, many), slow_after(world, rule, many))


if __name__ == "__main__":
    unittest.main()
