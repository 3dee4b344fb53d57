"""Promises 1, 2 and 3: what may be handed in, and what is refused, by all that look at it."""

import copy
import unittest

from asking import ASKED, RIGHTS, RULE, WORLD_ASKED, refusal
from onebreath.orders import need_of
from onebreath.plans import judged
from onebreath.rounds import after, period
from onebreath.running import beats, ends, waits

STEP = (1, 1, 1)


def bad_step(machine, step):
    return ("BadStep", {"machine": machine, "step": step})


class Handed(unittest.TestCase):
    def assert_all(self, world, rule, wanted):
        for name, ask in ASKED.items():
            with self.subTest(asked=name, world=world, rule=rule):
                self.assertEqual(refusal(ask, world, rule), wanted)
        if wanted is None or wanted[0] != "BadRule":
            self.assert_without_rule(world, wanted)

    def assert_without_rule(self, world, wanted):
        for name, ask in WORLD_ASKED.items():
            with self.subTest(asked=name, world=world):
                told = refusal(ask, world)
                # A world that can be may still hold no machine, or too many states.
                if wanted is None and told in (("BadCount", {}), ("TooMany", {})):
                    self.assertIn(name, ("need_of", "fewest"))
                else:
                    self.assertEqual(told, wanted)


class StoreTest(Handed):
    def test_edges_that_are_good(self):
        for store in ((1, 0, 0), (1, 1, 9), (99, 0, 9), (99, 99, 0), (50, 50, 5), (50, 0, 0)):
            self.assert_all((store, ((STEP,),)), RULE, None)

    def test_one_beyond(self):
        stores = ((0, 0, 0), (100, 0, 0), (5, -1, 0), (5, 6, 0), (99, 100, 0), (5, 5, -1), (5, 5, 10))
        for store in stores:
            self.assert_all((store, ()), RULE, ("BadStore", {}))

    def test_another_count_of_things(self):
        for store in ((), (5, 5), (5, 5, 1, 1)):
            self.assert_all((store, ()), RULE, ("BadStore", {}))


class StepsTest(Handed):
    store = (7, 7, 1)

    def test_edges_that_are_good(self):
        for step in ((0, 1, 0), (7, 1, 0), (7, 1, 7), (3, 9, 0), (3, 9, 3), (0, 9, 0)):
            self.assert_all((self.store, ((step,),)), RULE, None)
        for cap in (1, 99):
            self.assert_all(((cap, 0, 1), (((cap, 9, cap),),)), RULE, None)

    def test_one_beyond(self):
        for step in ((-1, 1, 0), (8, 1, 0), (3, 0, 0), (3, 10, 0), (3, 1, -1), (3, 1, 4), (0, 1, 1)):
            self.assert_all((self.store, ((step,),)), RULE, bad_step(0, 0))

    def test_another_count_of_things(self):
        for step in ((), (3, 1), (3, 1, 0, 0)):
            self.assert_all((self.store, ((STEP, step),)), RULE, bad_step(0, 1))

    def test_the_draw_goes_by_the_cap_and_not_by_the_start(self):
        self.assert_all(((7, 2, 1), (((7, 1, 0),),)), RULE, None)

    def test_no_machine_and_no_steps(self):
        for machines in ((), ((),), ((), (STEP,)), ((STEP,), ()), ((),) * 5):
            self.assert_all((self.store, machines), RULE, None)

    def test_five_machines_and_six_steps(self):
        self.assert_all((self.store, ((STEP,) * 6,) * 5), RULE, None)

    def test_one_machine_more(self):
        for more in ((STEP,), (), ((9, 9, 9),), (STEP,) * 7):
            self.assert_all((self.store, ((STEP,),) * 5 + (more,)), RULE, bad_step(5, 0))
        self.assert_all((self.store, ((STEP,),) * 7), RULE, bad_step(5, 0))

    def test_one_step_more(self):
        for at in range(5):
            machines = ((STEP,),) * at + ((STEP,) * 7,) + ((STEP,),) * (4 - at)
            self.assert_all((self.store, machines), RULE, bad_step(at, 6))
        self.assert_all((self.store, ((STEP,) * 6 + ((9, 9, 9),),)), RULE, bad_step(0, 6))
        self.assert_all((self.store, ((STEP,) * 9,)), RULE, bad_step(0, 6))

    def test_the_first_that_cannot_be(self):
        bad = (8, 1, 0)
        good = (STEP,) * 3
        self.assert_all((self.store, (good, (STEP, bad, bad), (bad,))), RULE, bad_step(1, 1))
        self.assert_all((self.store, (good, good, (bad,), (STEP,) * 7)), RULE, bad_step(2, 0))
        self.assert_all((self.store, (good, (STEP,) * 7, (bad,))), RULE, bad_step(1, 6))
        self.assert_all((self.store, ((STEP,) * 4 + (bad,) + (STEP,) * 3,)), RULE, bad_step(0, 4))
        self.assert_all((self.store, (good,) * 4 + ((STEP, bad), good)), RULE, bad_step(4, 1))
        self.assert_all((self.store, (good,) * 4 + ((STEP,) * 7, good)), RULE, bad_step(4, 6))


class RuleTest(Handed):
    world = ((7, 7, 1), ((STEP,), ()))

    def test_all_rights_with_both(self):
        for right in RIGHTS:
            for passing in (True, False):
                self.assert_all(self.world, (right, passing), None)

    def test_another_right(self):
        for right in ("", "Rank", "rank ", "most", "ran", "turn", "waits"):
            for passing in (True, False):
                self.assert_all(self.world, (right, passing), ("BadRule", {}))

    def test_another_count_of_things(self):
        for rule in ((), ("rank",), ("rank", True, True), ("rank", "turns", "wait", "least")):
            self.assert_all(self.world, rule, ("BadRule", {}))


class TurnOfRefusalsTest(unittest.TestCase):
    bad_store = ((7, 8, 1), ((STEP, (9, 1, 0)),))
    bad_steps = ((7, 7, 1), ((STEP, (9, 1, 0)),))
    good = ((7, 7, 1), ((STEP,),))
    # Its machines come round after 7 * 8 * 9 * 11 beats.
    endless = ((1, 1, 0), tuple([((0, long, 0),) for long in (7, 8, 9)]) + (((0, 9, 0), (0, 2, 0)),))
    bad_rule = ("first", True)

    def test_store_then_step_then_rule(self):
        for name, ask in ASKED.items():
            with self.subTest(name):
                self.assertEqual(refusal(ask, self.bad_store, self.bad_rule), ("BadStore", {}))
                self.assertEqual(refusal(ask, self.bad_steps, self.bad_rule), bad_step(0, 1))
                self.assertEqual(refusal(ask, self.good, self.bad_rule), ("BadRule", {}))

    def test_count_behind_them(self):
        for ask, beyond in ((beats, 501), (after, 10 ** 12 + 1), (beats, -1), (after, -1)):
            with self.subTest(ask=ask.__name__, many=beyond):
                self.assertEqual(refusal(ask, self.bad_store, self.bad_rule, beyond), ("BadStore", {}))
                self.assertEqual(refusal(ask, self.bad_steps, self.bad_rule, beyond), bad_step(0, 1))
                self.assertEqual(refusal(ask, self.good, self.bad_rule, beyond), ("BadRule", {}))
                self.assertEqual(refusal(ask, self.good, RULE, beyond), ("BadCount", {}))

    def test_plan_and_machine_behind_the_world(self):
        for ask, wrong in ((judged, [[9]]), (judged, [[]] * 501), (need_of, 9), (need_of, -1)):
            with self.subTest(ask=ask.__name__):
                self.assertEqual(refusal(ask, self.bad_store, wrong), ("BadStore", {}))
                self.assertEqual(refusal(ask, self.bad_steps, wrong), bad_step(0, 1))
                self.assertIn(refusal(ask, self.good, wrong)[0], ("BadPlan", "BadCount"))

    def test_world_ahead_of_too_many_states(self):
        crowd = tuple([((1, 9, 1),) * 6] * 4)
        self.assertEqual(refusal(WORLD_ASKED["fewest"], ((9, 9, 1), crowd)), ("TooMany", {}))
        self.assertEqual(refusal(WORLD_ASKED["fewest"], ((9, 10, 1), crowd)), ("BadStore", {}))
        self.assertEqual(refusal(WORLD_ASKED["fewest"], ((9, 9, 1), crowd + (((1, 9, 2),),))), bad_step(4, 0))

    def test_too_many_behind_all(self):
        self.assertEqual(refusal(period, self.endless, ("first", True)), ("BadRule", {}))
        self.assertEqual(refusal(period, self.endless, RULE), ("TooMany", {}))
        self.assertEqual(refusal(after, self.endless, ("first", True), 0), ("BadRule", {}))
        for many in (-1, 10 ** 12 + 1):
            self.assertEqual(refusal(after, self.endless, RULE, many), ("BadCount", {}))
        for many in (0, 1, 10 ** 12):
            self.assertEqual(refusal(after, self.endless, RULE, many), ("TooMany", {}))

    def test_beats_and_ends_know_no_too_many(self):
        for ask in (ends, waits):
            self.assertIsNone(refusal(ask, self.endless, RULE))
        self.assertIsNone(refusal(beats, self.endless, RULE, 500))


class KeptTest(unittest.TestCase):
    world = ((3, 1, 1), (((2, 1, 1), (3, 2, 3)), (), ((1, 3, 0), (0, 1, 0))))

    def rules(self):
        return [(right, passing) for right in RIGHTS for passing in (True, False)]

    def test_what_is_handed_in_stays_as_it_is(self):
        for rule in self.rules():
            for name, ask in ASKED.items():
                with self.subTest(asked=name, rule=rule):
                    world, kept = copy.deepcopy(self.world), copy.deepcopy(rule)
                    ask(world, kept)
                    self.assertEqual(world, self.world)
                    self.assertEqual(kept, rule)

    def test_a_world_handed_in_without_a_rule_stays_as_it_is(self):
        for name, ask in WORLD_ASKED.items():
            with self.subTest(asked=name):
                world = copy.deepcopy(self.world)
                told = ask(world)
                self.assertEqual(world, self.world)
                self.assertEqual(ask(world), told)

    def test_the_same_asked_twice(self):
        for rule in self.rules():
            for name, ask in ASKED.items():
                with self.subTest(asked=name, rule=rule):
                    self.assertEqual(ask(self.world, rule), ask(self.world, rule))

    def test_told_lists_are_the_callers_own(self):
        for rule in self.rules():
            for name in ("beats", "ends", "waits", "after"):
                with self.subTest(asked=name, rule=rule):
                    ask = ASKED[name]
                    told = ask(self.world, rule)
                    kept = copy.deepcopy(told)
                    told.reverse()
                    told.append(77)
                    self.assertEqual(ask(self.world, rule), kept)

    def test_the_lists_within_beats_are_the_callers_own(self):
        told = beats(self.world, RULE, 9)
        kept = copy.deepcopy(told)
        for at, (_, begun) in enumerate(told):
            begun.append(77)
            self.assertEqual([row for row in told if row[1][-1:] == [77]], told[:at + 1])
        self.assertEqual(beats(self.world, RULE, 9), kept)

    def test_after_by_the_round_is_the_callers_own(self):
        for many in (0, 1, 3, 500, 10 ** 12):
            told = after(self.world, RULE, many)
            kept = list(told)
            told.clear()
            self.assertEqual(after(self.world, RULE, many), kept)


if __name__ == "__main__":
    unittest.main()
