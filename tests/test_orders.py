"""Promise 9: what machines need that do all their steps alone, and in which order all can."""

import random
import unittest
from itertools import permutations

from asking import kinds, refusal
from onebreath.orders import least_start, need_of, order

BAD_COUNT = ("BadCount", {})


def store_behind(start, machines):
    """How much is there behind these machines, each behind the other; None if one can't."""
    here = start
    for steps in machines:
        for draw, _, back in steps:
            if draw > here:
                return None
            here = here - draw + back
    return here


class NeedTest(unittest.TestCase):
    def assert_need(self, steps, wanted):
        # The cap is below what some of these need.
        world = ((9, 0, 5), ((), steps, ((1, 1, 0),)))
        self.assertEqual(kinds(need_of(world, 1)), kinds(wanted))

    def test_one_step(self):
        self.assert_need(((3, 4, 0),), (3, 3))
        self.assert_need(((3, 4, 1),), (3, 2))
        self.assert_need(((3, 4, 3),), (3, 0))
        self.assert_need(((0, 9, 0),), (0, 0))

    def test_no_steps(self):
        self.assert_need((), (0, 0))

    def test_a_later_step_makes_it_greater(self):
        self.assert_need(((3, 1, 0), (2, 1, 1)), (5, 4))
        self.assert_need(((3, 1, 2), (2, 1, 0), (9, 1, 9)), (12, 3))
        self.assert_need(((9, 1, 0),) * 6, (54, 54))

    def test_a_later_step_needs_less(self):
        self.assert_need(((5, 1, 4), (3, 1, 0)), (5, 4))
        self.assert_need(((5, 1, 4), (4, 1, 0)), (5, 5))
        self.assert_need(((5, 1, 4), (5, 1, 0)), (6, 6))

    def test_steps_that_give_back_before(self):
        self.assert_need(((4, 1, 4), (4, 1, 4)), (4, 0))
        self.assert_need(((4, 1, 3), (4, 1, 3), (4, 1, 3)), (6, 3))
        self.assert_need(((2, 1, 2), (7, 1, 6), (3, 1, 2)), (7, 2))

    def test_less_of_all_or_none(self):
        self.assert_need(((5, 2, 5), (2, 1, 2), (0, 1, 0)), (5, 0))
        self.assert_need(((5, 2, 0), (2, 1, 0), (0, 1, 0)), (7, 7))

    def test_each_machine_alone(self):
        world = ((9, 0, 5), (((3, 1, 0),), ((4, 1, 1),), ()))
        self.assertEqual([need_of(world, number) for number in range(3)], [(3, 3), (4, 3), (0, 0)])

    def test_no_machine(self):
        world = ((9, 0, 5), (((3, 1, 0),), ((4, 1, 1),), ()))
        for number in (-1, 3, 4, -3, 99):
            self.assertEqual(refusal(need_of, world, number), BAD_COUNT)
        for number in (-1, 0, 1):
            self.assertEqual(refusal(need_of, ((9, 0, 5), ()), number), BAD_COUNT)
        self.assertIsNone(refusal(need_of, ((9, 0, 5), ((),) * 5), 4))
        self.assertEqual(refusal(need_of, ((9, 0, 5), ((),) * 5), 5), BAD_COUNT)


class OrderTest(unittest.TestCase):
    def assert_order(self, world, wanted):
        told = order(world)
        self.assertEqual(kinds(told), kinds(wanted))

    def test_the_first_where_all_can(self):
        machines = (((3, 1, 3),), ((2, 1, 2),), ())
        self.assert_order(((5, 3, 0), machines), [0, 1, 2])

    def test_the_first_as_lists_go(self):
        # Machine 2 leaves too little for 1, and 0 too little for 2.
        machines = (((1, 1, 0),), ((5, 1, 4),), ((4, 1, 3),))
        self.assert_order(((9, 6, 0), machines), [0, 1, 2])
        self.assert_order(((9, 5, 0), machines), [1, 2, 0])
        self.assert_order(((9, 4, 0), machines), None)
        machines = (((6, 1, 6),), ((1, 1, 0),), ((6, 1, 5),))
        self.assert_order(((9, 6, 0), machines), [0, 2, 1])
        self.assert_order(((9, 7, 0), machines), [0, 1, 2])

    def test_only_the_last_order_can(self):
        machines = (((3, 1, 3),), ((4, 1, 3),), ((5, 1, 4),))
        self.assert_order(((9, 5, 0), machines), [0, 2, 1])
        machines = (((3, 1, 2),), ((4, 1, 3),), ((5, 1, 4),))
        self.assert_order(((9, 5, 0), machines), [2, 1, 0])

    def test_all_of_a_machines_steps_at_once(self):
        # By turns of single steps both could with 4; alone machine 0 needs 5, and leaves 4.
        machines = (((3, 1, 2), (4, 1, 4)), ((4, 1, 4),))
        self.assert_order(((9, 5, 0), machines), [0, 1])
        self.assert_order(((9, 4, 0), machines), None)

    def test_none(self):
        self.assert_order(((9, 2, 9), (((3, 1, 3),),)), None)
        self.assert_order(((9, 9, 9), (((9, 1, 8),), ((9, 1, 8),))), None)
        self.assert_order(((9, 0, 9), ((), ((1, 1, 1),))), None)

    def test_no_refill(self):
        self.assert_order(((9, 3, 9), (((3, 9, 0),), ((1, 1, 0),))), None)

    def test_no_machines_and_no_steps(self):
        self.assert_order(((9, 0, 0), ()), [])
        self.assert_order(((9, 0, 0), ((),)), [0])
        self.assert_order(((9, 0, 0), ((), (), (), (), ())), [0, 1, 2, 3, 4])
        self.assert_order(((9, 3, 0), ((), ((3, 1, 0),), ())), [0, 1, 2])

    def test_five_machines(self):
        machines = tuple([((draw, 1, draw - 1),) for draw in (5, 6, 7, 8, 9)])
        self.assert_order(((9, 9, 0), machines), [4, 3, 2, 1, 0])
        self.assert_order(((9, 8, 0), machines), None)

    def test_told_is_the_callers_own(self):
        world = ((9, 9, 0), (((1, 1, 0),), ()))
        order(world).clear()
        self.assertEqual(order(world), [0, 1])


class LeastStartTest(unittest.TestCase):
    def assert_least(self, world, wanted):
        self.assertEqual(kinds(least_start(world)), kinds(wanted))

    def test_zero(self):
        for machines in ((), ((),), ((), ()), (((0, 3, 0),), ((0, 1, 0),) * 6)):
            for start in (0, 9):
                self.assert_least(((9, start, 0), machines), 0)

    def test_whatever_is_there_at_first(self):
        machines = (((3, 1, 0),), ((4, 1, 3),))
        for start in range(10):
            self.assert_least(((9, start, 1), machines), 4)

    def test_just_the_cap(self):
        self.assert_least(((9, 0, 0), (((9, 1, 0),),)), 9)
        self.assert_least(((9, 0, 0), (((5, 1, 0),), ((4, 1, 0),), ())), 9)
        self.assert_least(((9, 0, 0), (((9, 1, 8),), ((8, 1, 0),))), 9)

    def test_beyond_the_cap(self):
        self.assert_least(((9, 9, 9), (((5, 1, 0),), ((5, 1, 0),))), None)
        self.assert_least(((9, 9, 9), (((9, 1, 8),), ((9, 1, 8),))), None)
        self.assert_least(((9, 9, 9), (((5, 1, 0), (5, 1, 5)),)), None)

    def test_by_the_best_order(self):
        # By rank it would be 1 + 9; machine 1 first leaves 8, of which machine 0 takes 1.
        self.assert_least(((9, 0, 0), (((1, 1, 0),), ((9, 1, 8),))), 9)
        self.assert_least(((9, 0, 0), (((2, 1, 0),), ((3, 1, 3),), ((4, 1, 3),))), 4)


class SecondModelTest(unittest.TestCase):
    def test_many_small_worlds(self):
        source = random.Random(9)
        nones = 0
        for _ in range(300):
            world = self.some_world(source)
            (cap, start, _), machines = world
            turns = sorted(permutations(range(len(machines))))
            can = [turn for turn in turns if store_behind(start, [machines[who] for who in turn]) is not None]
            starts = [
                first for first in range(cap + 1)
                if any(store_behind(first, [machines[who] for who in turn]) is not None for turn in turns)
            ]
            with self.subTest(world=world):
                self.assertEqual(order(world), list(can[0]) if can else None)
                self.assertEqual(least_start(world), starts[0] if starts else None)
                for who, steps in enumerate(machines):
                    least = [first for first in range(999) if store_behind(first, [steps]) is not None][0]
                    self.assertEqual(need_of(world, who), (least, least - store_behind(least, [steps])))
            nones += (not can) + (not starts)
        self.assertGreater(nones, 50)

    def some_world(self, source):
        cap = source.randint(1, 12)
        machines = []
        for _ in range(source.randint(0, 4)):
            draws = [source.randint(0, cap) for _ in range(source.randint(0, 3))]
            machines.append(tuple([(draw, 1, source.randint(max(0, draw - 3), draw)) for draw in draws]))
        return (cap, source.randint(0, cap), source.randint(0, 9)), tuple(machines)


if __name__ == "__main__":
    unittest.main()
