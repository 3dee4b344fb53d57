"""Promises 7 and 8: plans judged, the fewest beats with a plan, and floors."""

import copy
import unittest
from unittest import mock

from asking import RULES, kinds, refusal
from onebreath import plans
from onebreath.plans import fewest, floors, judged
from onebreath.running import beats, ends


def bad_plan(beat):
    return ("BadPlan", {"beat": beat})


def as_tuples(plan):
    return tuple([tuple(row) for row in plan])


class Judging(unittest.TestCase):
    def assert_judged(self, world, plan, wanted):
        for handed in (plan, as_tuples(plan), [tuple(row) for row in plan], tuple(plan)):
            self.assertEqual(kinds(judged(world, handed)), kinds(wanted), handed)

    def assert_bad(self, world, plan, beat):
        for handed in (plan, as_tuples(plan), [tuple(row) for row in plan], tuple(plan)):
            self.assertEqual(refusal(judged, world, handed), bad_plan(beat), handed)


class JudgedTest(Judging):
    # Both begin at beat 0, which leaves nothing; ahead of the draws there are 3 at beat 1, 5 at 2.
    world = ((5, 5, 1), (((3, 2, 1), (4, 1, 0)), ((2, 1, 2),)))

    def test_last_of_all_steps(self):
        self.assert_judged(self.world, [[0, 1], [], [0]], 3)
        self.assert_judged(self.world, [[0, 1], [], [], [], [0]], 5)
        self.assert_judged(self.world, [[1], [0], [], [0]], 4)

    def test_the_last_over_is_not_the_last_begun(self):
        world = ((5, 5, 0), (((1, 9, 0),), ((1, 1, 0),)))
        self.assert_judged(world, [[0], [1]], 9)
        self.assert_judged(world, [[1], [0]], 10)
        self.assert_judged(world, [[1], [], [], [0], [], []], 12)

    def test_no_steps(self):
        for machines in ((), ((),), ((), (), (), (), ())):
            for plan in ([], [[]], [[], [], []], [[]] * 500):
                self.assert_judged(((5, 0, 0), machines), plan, 0)

    def test_too_short_by_one_beat(self):
        self.assert_judged(self.world, [[0, 1], []], None)
        self.assert_judged(self.world, [[0, 1]], None)
        self.assert_judged(self.world, [], None)
        self.assert_judged(self.world, [[0], [1]], None)
        self.assert_judged(((5, 5, 0), ((), ((0, 1, 0),))), [], None)
        self.assert_judged(((5, 5, 0), (((0, 1, 0),), ((0, 9, 0),))), [[1]] + [[]] * 20, None)

    def test_a_plan_may_end_while_steps_go_on(self):
        self.assert_judged(((5, 5, 0), (((1, 9, 0),),)), [[0]], 9)
        self.assert_judged(((5, 5, 0), (((1, 9, 0), (1, 9, 0)),)), [[0]] + [[]] * 8, None)
        self.assert_judged(((5, 5, 0), (((1, 9, 0), (1, 9, 0)),)), [[0]] + [[]] * 8 + [[0]], 18)

    def test_empty_rows_behind_the_last_begin(self):
        for more in (1, 2, 30, 497):
            self.assert_judged(self.world, [[0, 1], [], [0]] + [[]] * more, 3)

    def test_rows_that_do_not_rise(self):
        self.assert_bad(self.world, [[1, 0], [], [0]], 0)
        self.assert_bad(((9, 9, 0), (((0, 1, 0),),) * 4), [[], [0, 2, 1]], 1)
        self.assert_bad(((9, 9, 0), (((0, 1, 0),),) * 4), [[0], [3, 1, 2]], 1)

    def test_a_number_twice(self):
        world = ((9, 9, 9), (((1, 1, 0),) * 3,) * 2)
        self.assert_bad(world, [[0, 0]], 0)
        self.assert_bad(world, [[0, 1], [0, 1, 1]], 1)
        self.assert_bad(world, [[], [], [0, 0, 1]], 2)

    def test_a_machine_that_there_is_not(self):
        self.assert_bad(self.world, [[-1]], 0)
        self.assert_bad(self.world, [[0], [-1, 1]], 1)
        self.assert_bad(self.world, [[-2]], 0)
        self.assert_bad(self.world, [[2]], 0)
        self.assert_bad(self.world, [[0, 1, 2]], 0)
        self.assert_bad(self.world, [[0], [], [], [7]], 3)
        self.assert_bad(((5, 5, 0), ()), [[0]], 0)
        self.assert_bad(((5, 5, 0), ()), [[], [-1]], 1)

    def test_a_machine_that_still_works(self):
        self.assert_bad(self.world, [[0, 1], [0], [0]], 1)
        world = ((5, 5, 0), (((0, 9, 0), (0, 1, 0)),))
        for beat in range(1, 9):
            self.assert_bad(world, [[0]] + [[]] * (beat - 1) + [[0]], beat)
        self.assert_judged(world, [[0]] + [[]] * 8 + [[0]], 10)

    def test_a_machine_at_its_end(self):
        self.assert_bad(self.world, [[0, 1], [1]], 1)
        self.assert_bad(self.world, [[0, 1], [], [0, 1]], 2)
        self.assert_bad(((5, 5, 0), ((), ((0, 1, 0),))), [[0]], 0)

    def test_too_little_in_the_store(self):
        world = ((5, 4, 1), self.world[1])
        self.assert_bad(world, [[0, 1]], 0)
        self.assert_judged(world, [[0], [1], [0]], 3)
        world = ((5, 4, 0), self.world[1])
        self.assert_bad(world, [[0], [1]], 1)
        self.assert_bad(world, [[0], [], [1], [0]], 3)
        self.assert_judged(world, [[0], [], [1], []], None)
        # At beat 0 there's no refill, and a step gives back when it is over.
        self.assert_bad(((3, 2, 1), (((3, 1, 0),),)), [[0]], 0)
        self.assert_judged(((3, 2, 1), (((3, 1, 0),),)), [[], [0]], 2)
        self.assert_bad(((3, 3, 0), (((3, 2, 3),), ((1, 1, 0),))), [[0], [1]], 1)
        self.assert_judged(((3, 3, 0), (((3, 2, 3),), ((1, 1, 0),))), [[0], [], [1]], 3)

    def test_the_row_together_and_not_each(self):
        world = ((5, 5, 0), (((2, 1, 2),), ((2, 1, 2),), ((2, 1, 2),)))
        self.assert_bad(world, [[0, 1, 2]], 0)
        self.assert_judged(world, [[0, 2], [1]], 2)

    def test_what_the_store_does_not_hold_is_lost(self):
        world = ((4, 4, 2), (((3, 1, 3), (4, 1, 0), (3, 1, 0)),))
        self.assert_bad(world, [[0], [0], [0]], 2)
        self.assert_judged(world, [[0], [0], [], [0]], 4)

    def test_those_that_draw_nothing(self):
        world = ((5, 0, 0), (((0, 1, 0),), ((1, 1, 1),), ((0, 2, 0),)))
        self.assert_judged(((5, 0, 0), (world[1][0], world[1][2])), [[0, 1]], 2)
        self.assert_bad(world, [[0, 1, 2]], 0)
        self.assert_judged(world, [[0, 2], []], None)

    def test_a_row_that_cannot_be_behind_the_last_begin(self):
        self.assert_bad(self.world, [[0, 1], [], [0], [], [1]], 4)
        self.assert_bad(self.world, [[0, 1], [], [0], [0]], 3)
        self.assert_bad(self.world, [[0, 1], [], [0], [], [], [5]], 5)

    def test_the_first_row_that_cannot_be(self):
        self.assert_bad(self.world, [[0], [0], [9], [1, 0]], 1)
        self.assert_bad(self.world, [[], [1, 0], [0, 0]], 1)

    def test_500_rows_and_one_more(self):
        good = [[0, 1], [], [0]] + [[]] * 497
        self.assert_judged(self.world, good, 3)
        self.assert_bad(self.world, good + [[]], 500)
        self.assert_bad(self.world, good + [[0]], 500)
        self.assert_bad(self.world, good + [[]] * 9, 500)
        self.assert_bad(((5, 5, 0), ()), [[]] * 501, 500)
        self.assert_judged(self.world, [[]] * 500, None)
        self.assert_bad(self.world, [[]] * 501, 500)
        late = [[]] * 497 + [[0, 1], [], [0]]
        self.assert_judged(self.world, late, 500)

    def test_500_rows_and_an_earlier_one(self):
        for beat in (0, 3, 499):
            plan = [[]] * 501
            plan[beat] = [7]
            self.assert_bad(self.world, plan, beat)

    def test_beats_by_a_rule_are_a_plan(self):
        world = ((2, 1, 1), (((2, 2, 2), (2, 1, 2)), ((0, 1, 0), (0, 1, 0)), ((2, 1, 2),)))
        for rule in RULES:
            plan = [sorted(begun) for _, begun in beats(world, rule, 12)]
            self.assert_judged(world, plan, max(ends(world, rule)))

    def test_what_is_handed_in_stays_as_it_is(self):
        for plan in ([[0, 1], [], [0]], [[0, 1], [0]], [[1, 0]], []):
            kept = copy.deepcopy(plan)
            refusal(judged, self.world, plan)
            self.assertEqual(plan, kept)

    def test_a_plan_that_is_changed_later(self):
        plan = [[0, 1], [], [0]]
        self.assertEqual(judged(self.world, plan), 3)
        plan[0].clear()
        self.assertIn("BadPlan", refusal(judged, self.world, [[9]] + plan))
        self.assertIsNone(judged(self.world, plan))


class Sooner(unittest.TestCase):
    def assert_fewest(self, world, beat):
        told = fewest(world)
        self.assertIs(type(told), tuple)
        self.assertEqual(kinds(told[0]), kinds(beat), world)
        plan = told[1]
        self.assertIs(type(plan), list)
        self.assertEqual(len(plan), beat)
        self.assertEqual({type(row) for row in plan} | {tuple}, {tuple})
        self.assertEqual({type(who) for row in plan for who in row} | {int}, {int})
        self.assertEqual(judged(world, plan), beat)


class FewestTest(Sooner):
    def test_one_machine(self):
        self.assert_fewest(((5, 5, 0), (((1, 1, 0),),)), 1)
        self.assert_fewest(((5, 5, 0), (((1, 9, 0), (1, 9, 0)),)), 18)
        self.assert_fewest(((5, 0, 1), (((3, 2, 0),),)), 5)

    def test_a_step_that_outlasts_all_begins(self):
        self.assert_fewest(((9, 9, 0), (((1, 9, 0),), ((1, 2, 0),), ())), 9)

    def test_waiting_on_purpose(self):
        # Machine 0 could begin at beat 0; but then machine 1 can only at beat 2, and not at 1.
        world = ((2, 1, 1), (((1, 1, 0),), ((2, 9, 0),)))
        self.assert_fewest(world, 10)
        for rule in RULES:
            self.assertEqual(max(ends(world, rule)), 11)

    def test_waiting_on_purpose_though_much_is_there(self):
        # Machine 0 at beat 0 lets machine 1 begin at 4 and 9; by waiting, it does at 1 and 6.
        world = ((4, 3, 1), (((3, 9, 3),), ((4, 5, 4), (4, 5, 4))))
        self.assertEqual(judged(world, [[0], [], [], [], [1], [], [], [], [], [1]]), 14)
        self.assertEqual(judged(world, [[], [1], [], [], [0], [], [1]]), 13)
        self.assert_fewest(world, 13)
        for rule in RULES:
            self.assertEqual(max(ends(world, rule)), 14)

    def test_none_does_it(self):
        self.assertIsNone(fewest(((3, 1, 0), (((2, 1, 0),),))))
        self.assertIsNone(fewest(((3, 3, 0), (((2, 1, 0), (2, 1, 2)),))))
        self.assertIsNone(fewest(((3, 3, 0), (((2, 1, 0),), ((2, 1, 0),), ()))))
        self.assertIsNone(fewest(((9, 9, 0), (((9, 9, 8),), ((9, 9, 9), (9, 1, 8))))))
        # The one that gives all back first, then the other: an order that no number tells.
        self.assert_fewest(((9, 9, 0), (((9, 9, 8),), ((9, 9, 9), (9, 1, 9)))), 19)

    def test_no_steps(self):
        for machines in ((), ((),), ((), (), (), (), ())):
            for store in ((5, 0, 0), (9, 9, 9)):
                self.assertEqual(kinds(fewest((store, machines))), kinds((0, [])))

    def test_behind_500_beats(self):
        world = ((99, 0, 1), (((99, 1, 0),) * 6,))
        beat, plan = fewest(world)
        # It draws at each 99th beat.
        self.assertEqual((beat, len(plan)), (595, 595))
        self.assertEqual([at for at, row in enumerate(plan) if row], [99, 198, 297, 396, 495, 594])

    def test_told_is_the_callers_own(self):
        world = ((5, 5, 1), (((3, 2, 1), (4, 1, 0)), ((2, 1, 2),)))
        told = fewest(world)
        kept = copy.deepcopy(told)
        told[1].clear()
        self.assertEqual(fewest(world), kept)


class StatesTest(Sooner):
    # These draw nothing, so each waits as long as it likes and all mix: of each machine come by
    # all its steps, waited for or with so many beats left, and its end. Nothing is there for the
    # first machine, so no plan ends.
    never = ((1, 1, 0),)

    def free(self, *longs):
        return tuple([(0, long, 0) for long in longs])

    def states_of(self, *longs):
        return sum([long + 1 for long in longs]) + 1

    def test_four_thousand_and_one_more(self):
        longs = ((1,), (9, 9, 9), (9, 9, 9, 9, 1))
        many = [self.states_of(*one) for one in longs]
        self.assertEqual(many, [3, 31, 43])
        self.assertEqual(1 + 3 * 31 * 43, 4000)
        world = ((5, 0, 0), (self.never,) + tuple([self.free(*one) for one in longs]))
        self.assertIsNone(fewest(world))
        longs = ((3,), (9, 8), (9, 9, 9, 8))
        many = [self.states_of(*one) for one in longs]
        self.assertEqual(many, [5, 20, 40])
        world = ((5, 0, 0), (self.never,) + tuple([self.free(*one) for one in longs]))
        self.assertEqual(refusal(fewest, world), ("TooMany", {}))

    def test_just_so_many_up_to_the_end(self):
        # The second model counts: 4,000 up to the end, 4,001, and 4,000 ahead of the last beat only.
        self.assert_fewest((
            (20, 15, 3),
            (((14, 8, 3), (19, 7, 18), (16, 2, 13)), ((5, 2, 2), (12, 8, 8), (17, 7, 8)), ((17, 4, 12), (17, 8, 14))),
        ), 26)
        self.assert_fewest((
            (19, 8, 3),
            (((9, 3, 8), (9, 5, 3), (6, 3, 5)), ((7, 1, 6),), ((14, 5, 10), (5, 2, 3), (5, 4, 5)), ((2, 1, 1),)),
        ), 15)
        for world in (
            ((6, 5, 0), (((2, 6, 0),), ((1, 8, 0),), ((0, 9, 0),), ((0, 3, 0),))),
            ((6, 5, 2), (((1, 4, 0),), ((4, 2, 1),), ((1, 7, 1),), ((3, 2, 3), (6, 6, 1), (4, 9, 0)))),
        ):
            self.assertEqual(refusal(fewest, world), ("TooMany", {}))

    def assert_states(self, world, beat, many):
        """The world is answered with so many states let come by, and refused with one less."""
        with mock.patch.object(plans, "MOST_STATES", many):
            if beat is None:
                self.assertIsNone(fewest(world))
            else:
                self.assert_fewest(world, beat)
        with mock.patch.object(plans, "MOST_STATES", many - 1):
            self.assertEqual(refusal(fewest, world), ("TooMany", {}))

    def test_a_store_that_fills(self):
        # Ahead of beat 0 one; ahead of 1 to 9 there are 0 to 8, and ahead of 10 either 9 and it
        # waits, or none and it does its step.
        self.assert_states(((9, 0, 1), (((9, 1, 9),),)), 10, 1 + 9 + 2)

    def test_a_state_counts_once(self):
        # Of (machine 0, machine 1): both wait (so it may be ahead of each beat), 0 works with 8 to
        # 0 left and 1 waits, or is at its end, 1 works with 0 left and 0 waits, or is at its end,
        # 0 waits and 1 is at its end, or so the other way round; and that ahead of beat 0.
        self.assert_states(((9, 9, 0), (((9, 9, 9),), ((9, 1, 9),))), 10, 1 + 1 + 2 * 9 + 2 + 2)

    def test_the_state_ahead_of_beat_0_counts_by_itself(self):
        # Ahead of each beat nothing is there, and the machine waits.
        self.assert_states(((9, 0, 0), (((9, 1, 9),),)), None, 2)
        self.assert_states(((9, 0, 3), (((9, 1, 9),),)), 4, 1 + 3 + 2)

    def test_no_steps_are_one_state(self):
        with mock.patch.object(plans, "MOST_STATES", 1):
            self.assertEqual(fewest(((9, 0, 1), ((), ()))), (0, []))

    def test_far_more(self):
        world = ((99, 50, 9), (((9, 9, 9),) * 6,) * 5)
        self.assertEqual(refusal(fewest, world), ("TooMany", {}))


class FloorsTest(unittest.TestCase):
    def assert_floors(self, world, wanted):
        self.assertEqual(kinds(floors(world)), kinds(wanted))

    def test_longest(self):
        self.assert_floors(((5, 5, 0), (((0, 3, 0), (0, 4, 0)), ((0, 9, 0),), ())), (9, 0))
        self.assert_floors(((5, 5, 0), (((0, 3, 0), (0, 4, 0), (0, 3, 0)), ((0, 9, 0),), ())), (10, 0))
        self.assert_floors(((5, 5, 0), (((0, 9, 0),) * 6,) * 5), (54, 0))

    def test_no_steps(self):
        self.assert_floors(((5, 0, 0), ()), (0, 0))
        self.assert_floors(((5, 0, 3), ((), ())), (0, 0))

    def test_enough_at_the_start_alone(self):
        self.assert_floors(((5, 5, 0), (((3, 1, 0),), ((2, 2, 0),))), (2, 0))
        self.assert_floors(((5, 5, 9), (((3, 1, 0),), ((2, 2, 0),))), (2, 0))

    def test_given_back_is_enough_without_refill(self):
        self.assert_floors(((5, 2, 0), (((5, 1, 4),), ((2, 2, 1),))), (2, 0))
        self.assert_floors(((5, 2, 0), (((5, 1, 4),), ((2, 2, 1), (1, 1, 1)))), (3, 0))
        self.assert_floors(((5, 0, 0), (((5, 1, 5),), ((2, 2, 2),))), (2, 0))

    def test_never(self):
        self.assert_floors(((5, 4, 0), (((3, 1, 0),), ((2, 2, 0),))), (2, None))
        self.assert_floors(((5, 1, 0), (((5, 1, 4),), ((2, 2, 1),))), (2, None))
        self.assert_floors(((5, 0, 0), (((1, 1, 0),),)), (1, None))

    def test_refills(self):
        # 10 are drawn, 1 given back, 2 are there: 7 are lacking.
        machines = (((5, 1, 1), (5, 1, 0)),)
        wanted = {1: 7, 2: 4, 3: 3, 4: 2, 5: 2, 6: 2, 7: 1, 8: 1, 9: 1}
        for refill, enough in wanted.items():
            self.assert_floors(((5, 2, refill), machines), (2, enough))
        self.assert_floors(((99, 0, 1), (((99, 1, 0),) * 6,) * 5), (6, 2970))

    def test_what_the_store_does_not_hold_is_not_looked_at(self):
        # At beat 5 there have been 5 refills, though the store holds 1 only.
        self.assert_floors(((1, 0, 1), (((1, 1, 0),) * 5,)), (5, 5))
        self.assert_floors(((9, 9, 9), (((9, 1, 9),), ((9, 9, 0), (9, 1, 0)))), (10, 1))

    def test_nothing_is_over_sooner(self):
        for world in (
            ((2, 1, 1), (((1, 1, 0),), ((2, 9, 0),))),
            ((5, 5, 1), (((3, 2, 1), (4, 1, 0)), ((2, 1, 2),))),
            ((3, 0, 1), (((3, 1, 0),), ((3, 1, 0),))),
        ):
            self.assertGreaterEqual(fewest(world)[0], max(floors(world)))

    def test_enough_is_no_promise(self):
        world = ((3, 3, 0), (((2, 1, 0), (2, 1, 2)),))
        self.assert_floors(world, (2, 0))
        self.assertIsNone(fewest(world))


if __name__ == "__main__":
    unittest.main()
