"""Promises 3, 4 and 5: the rights, the beats, when machines end and how long they wait."""

import unittest

from asking import RIGHTS, RULE, refusal
from onebreath.running import beats, ends, waits


def begun(world, rule, many):
    """Who began at each of the first beats, in turn."""
    return [row[1] for row in beats(world, rule, many)]


def here(world, rule, many):
    """How much is there behind each of the first beats."""
    return [row[0] for row in beats(world, rule, many)]


class OneWorldManyRulesTest(unittest.TestCase):
    """By "least", whoever stands behind one that can't draw can't either: passing changes nothing."""

    world = ((2, 1, 1), (((2, 2, 2), (2, 1, 2)), ((0, 1, 0), (0, 1, 0)), ((2, 1, 2),)))
    wanted = {
        ("rank", True): [(1, [1]), (0, [0, 1]), (1, []), (0, [0]), (0, [2]), (2, [])],
        ("rank", False): [(1, []), (0, [0, 1]), (1, [1]), (0, [0]), (0, [2]), (2, [])],
        ("turns", True): [(1, [1]), (0, [2, 1]), (0, [0]), (1, []), (0, [0]), (2, [])],
        ("turns", False): [(1, []), (0, [0, 1]), (1, []), (0, [2]), (0, [0, 1]), (2, [])],
        ("wait", True): [(1, [1]), (0, [0, 1]), (1, []), (0, [2]), (0, [0]), (2, [])],
        ("wait", False): [(1, []), (0, [0, 1]), (1, []), (0, [2, 1]), (0, [0]), (2, [])],
        ("least", True): [(1, [1]), (0, [1, 0]), (1, []), (0, [0]), (0, [2]), (2, [])],
        ("least", False): [(1, [1]), (0, [1, 0]), (1, []), (0, [0]), (0, [2]), (2, [])],
    }
    ends = {
        ("rank", True): [4, 2, 5],
        ("rank", False): [4, 3, 5],
        ("turns", True): [5, 2, 2],
        ("turns", False): [5, 5, 4],
        ("wait", True): [5, 2, 4],
        ("wait", False): [5, 4, 4],
        ("least", True): [4, 2, 5],
        ("least", False): [4, 2, 5],
    }
    waits = {
        ("rank", True): [1, 0, 4],
        ("rank", False): [1, 1, 4],
        ("turns", True): [2, 0, 1],
        ("turns", False): [2, 3, 3],
        ("wait", True): [2, 0, 3],
        ("wait", False): [2, 2, 3],
        ("least", True): [1, 0, 4],
        ("least", False): [1, 0, 4],
    }

    def test_each_rule(self):
        for rule, rows in self.wanted.items():
            with self.subTest(rule):
                self.assertEqual(beats(self.world, rule, len(rows)), rows)

    def test_ends_of_each_rule(self):
        for rule, wanted in self.ends.items():
            with self.subTest(rule):
                self.assertEqual(ends(self.world, rule), wanted)

    def test_waits_of_each_rule(self):
        for rule, wanted in self.waits.items():
            with self.subTest(rule):
                self.assertEqual(waits(self.world, rule), wanted)


class RankTest(unittest.TestCase):
    def test_as_they_are_numbered_each_time(self):
        world = ((2, 2, 2), (((2, 1, 0),) * 3, ((2, 1, 0),)))
        self.assertEqual(begun(world, ("rank", True), 5), [[0], [0], [0], [1], []])

    def test_passing_lets_those_behind_draw(self):
        world = ((3, 2, 0), (((3, 1, 0),), ((1, 1, 0),), ((2, 1, 0),), ((1, 1, 0),), ((0, 1, 0),)))
        self.assertEqual(beats(world, ("rank", True), 2), [(0, [1, 3, 4]), (0, [])])

    def test_without_passing_not_even_such_as_draw_nothing(self):
        world = ((3, 2, 0), (((1, 1, 0),), ((3, 1, 0),), ((0, 1, 0),), ((1, 1, 0),)))
        self.assertEqual(beats(world, ("rank", False), 3), [(1, [0]), (1, []), (1, [])])

    def test_without_passing_only_in_that_beat(self):
        world = ((3, 2, 1), (((3, 1, 0),), ((0, 1, 0),)))
        self.assertEqual(beats(world, ("rank", False), 3), [(2, []), (0, [0, 1]), (1, [])])

    def test_those_ahead_of_the_one_that_cannot_still_draw(self):
        world = ((3, 3, 0), (((1, 1, 1),), ((3, 1, 3),), ((1, 1, 1),)))
        self.assertEqual(begun(world, ("rank", False), 3), [[0], [1], [2]])


class TurnsTest(unittest.TestCase):
    def test_as_they_are_numbered_before_any_drew(self):
        world = ((4, 0, 1), (((2, 1, 0),), ((1, 1, 0),), ((0, 1, 0),)))
        self.assertEqual(begun(world, ("turns", False), 4), [[], [], [0], [1, 2]])

    def test_first_those_behind_the_one_that_drew_last(self):
        world = ((2, 2, 2), (((1, 1, 0),) * 4,) * 3)
        self.assertEqual(begun(world, ("turns", True), 6), [[0, 1], [2, 0], [1, 2], [0, 1], [2, 0], [1, 2]])

    def test_the_one_that_drew_last_is_the_last_of_its_beat(self):
        world = ((9, 3, 3), (((3, 1, 0), (3, 1, 0)), ((0, 1, 0), (3, 1, 0)), ((3, 1, 0),)))
        # At beat 0 machine 0 draws, then machine 1: so machine 2 comes first at beat 1.
        self.assertEqual(begun(world, ("turns", True), 4), [[0, 1], [2], [0], [1]])

    def test_who_drew_last_in_turn_and_not_by_number(self):
        world = ((1, 1, 1), (((0, 1, 0),) * 2, ((1, 1, 0),) * 3, ((0, 1, 0),)))
        # At beat 1 the turn is 0, 1 behind machine 2; machine 1 draws last.
        self.assertEqual(begun(world, ("turns", True), 4), [[0, 1, 2], [0, 1], [1], []])
        world = ((2, 2, 2), (((2, 1, 0), (0, 1, 0), (2, 1, 0)), ((2, 1, 0), (2, 1, 0)), ((2, 1, 0),)))
        # At beat 1 machine 1 draws and then 0, though 0 is the lesser number: 1 comes first at 2.
        self.assertEqual(begun(world, ("turns", True), 5), [[0], [1, 0], [1], [2], [0]])

    def test_kept_over_beats_in_which_none_draws(self):
        world = ((3, 3, 1), (((3, 1, 0),) * 2, ((3, 1, 0),) * 2))
        drawn = [row for row in begun(world, ("turns", True), 12) if row]
        self.assertEqual(drawn, [[0], [1], [0], [1]])

    def test_it_is_who_drew_last_and_not_whose_step_is_over_last(self):
        world = ((2, 2, 0), (((1, 3, 1), (2, 1, 2)), ((1, 1, 1), (2, 1, 2)), ((2, 1, 2),)))
        # Machine 1 drew last at beat 0; at beat 3 both are done with it, and 2 comes first.
        self.assertEqual(begun(world, ("turns", True), 6), [[0, 1], [], [], [2], [0], [1]])


class WaitTest(unittest.TestCase):
    def test_who_waits_longest(self):
        world = ((2, 2, 0), (((1, 2, 1), (2, 1, 2)), ((1, 1, 1), (2, 1, 2))))
        # At beat 2 machine 1 waits from beat 1 on, machine 0 only from beat 2 on.
        self.assertEqual(begun(world, ("wait", True), 4), [[0, 1], [], [1], [0]])

    def test_of_several_as_they_are_numbered(self):
        world = ((2, 2, 0), (((1, 2, 1), (2, 1, 2)), ((1, 2, 1), (2, 1, 2)), ((0, 1, 0), (2, 1, 2))))
        self.assertEqual(begun(world, ("wait", True), 5), [[0, 1, 2], [], [2], [0], [1]])

    def test_all_wait_from_beat_0_on(self):
        world = ((3, 0, 3), (((0, 1, 0), (3, 1, 0)), ((3, 1, 0),), ((3, 1, 0),)))
        # Machine 0 waits from beat 1 on, behind the two that wait from beat 0 on.
        self.assertEqual(begun(world, ("wait", True), 4), [[0], [1], [2], [0]])

    def test_waiting_counts_from_the_last_step_and_not_in_all(self):
        world = ((1, 0, 0), (((1, 1, 1), (1, 1, 1)), ((0, 5, 0), (1, 1, 1))))
        self.assertEqual(begun(world, ("wait", True), 7), [[1], [], [], [], [], [], []])
        world = ((1, 0, 1), (((1, 3, 1), (1, 1, 0)), ((0, 3, 0), (1, 1, 0))))
        # Machine 0 waited at beat 0, but for its second step from beat 4 on, machine 1 from 3 on.
        self.assertEqual(begun(world, ("wait", True), 6), [[1], [0], [], [1], [0], []])


class LeastTest(unittest.TestCase):
    def test_whose_step_draws_least(self):
        world = ((9, 6, 0), (((3, 1, 0),), ((2, 1, 0),), ((1, 1, 0),), ((0, 1, 0),)))
        for passing in (True, False):
            self.assertEqual(begun(world, ("least", passing), 2), [[3, 2, 1, 0], []])

    def test_of_several_as_they_are_numbered(self):
        world = ((9, 6, 0), (((3, 1, 0),), ((2, 1, 0),), ((3, 1, 0),), ((2, 1, 0),)))
        self.assertEqual(begun(world, ("least", True), 2), [[1, 3], []])

    def test_it_is_the_step_that_comes_next(self):
        world = ((9, 9, 3), (((4, 1, 0), (1, 1, 0)), ((3, 1, 0), (2, 1, 0))))
        self.assertEqual(begun(world, ("least", True), 2), [[1, 0], [0, 1]])


class BeatTest(unittest.TestCase):
    def test_no_refill_at_beat_0(self):
        self.assertEqual(beats(((10, 3, 2), ()), RULE, 6), [(3, []), (5, []), (7, []), (9, []), (10, []), (10, [])])
        self.assertEqual(begun(((3, 2, 1), (((3, 1, 0),),)), RULE, 2), [[], [0]])

    def test_the_refill_comes_ahead_of_the_draws(self):
        world = ((5, 0, 2), (((2, 1, 0),),))
        self.assertEqual(beats(world, RULE, 3), [(0, []), (0, [0]), (2, [])])

    def test_what_is_given_back_comes_ahead_of_the_draws(self):
        world = ((5, 5, 0), (((5, 1, 0), (0, 1, 0)), ((0, 2, 0), (5, 1, 5))))
        self.assertEqual(beats(world, RULE, 3), [(0, [0, 1]), (0, [0]), (0, [])])
        world = ((5, 5, 0), (((5, 2, 5),), ((5, 1, 5),)))
        self.assertEqual(beats(world, RULE, 4), [(0, [0]), (0, []), (0, [1]), (5, [])])

    def test_back_and_refill_together_let_one_draw(self):
        world = ((5, 4, 1), (((4, 1, 2), (3, 1, 0)),))
        self.assertEqual(beats(world, RULE, 2), [(0, [0]), (0, [0])])

    def test_what_the_store_does_not_hold_is_lost(self):
        world = ((5, 5, 3), (((4, 2, 4), (1, 1, 0)),))
        # At beat 2 there are 4, and 4 given back and 3 refilled: 5 is all that's held.
        self.assertEqual(beats(world, RULE, 4), [(1, [0]), (4, []), (4, [0]), (5, [])])

    def test_what_is_given_back_by_several_is_lost_too(self):
        world = ((4, 4, 2), (((2, 2, 2), (4, 1, 0)), ((2, 2, 2), (1, 1, 0))))
        self.assertEqual(beats(world, RULE, 4), [(0, [0, 1]), (2, []), (0, [0]), (1, [1])])

    def test_only_what_is_given_back_comes_back(self):
        world = ((9, 9, 0), (((6, 1, 2), (5, 2, 0), (0, 1, 0)),))
        self.assertEqual(beats(world, RULE, 5), [(3, [0]), (0, [0]), (0, []), (0, [0]), (0, [])])

    def test_a_step_is_over_at_its_begin_and_its_length(self):
        for long in range(1, 10):
            world = ((3, 3, 0), (((2, long, 1), (2, 1, 2)),))
            rows = [(1, [])] * (long + 2)
            rows[0], rows[long], rows[long + 1] = (1, [0]), (0, [0]), (2, [])
            self.assertEqual(beats(world, RULE, long + 2), rows)

    def test_a_machine_does_one_step_at_a_time(self):
        world = ((9, 9, 0), (((1, 3, 0), (1, 2, 0), (1, 1, 0)),))
        self.assertEqual(begun(world, RULE, 7), [[0], [], [], [0], [], [0], []])

    def test_numbers_keep_to_machines_without_steps(self):
        world = ((3, 3, 0), ((), ((1, 1, 0),), (), ((1, 1, 0),)))
        for right in RIGHTS:
            for passing in (True, False):
                self.assertEqual(beats(world, (right, passing), 2), [(1, [1, 3]), (1, [])])

    def test_all_of_the_store_may_be_drawn(self):
        self.assertEqual(here(((99, 99, 9), (((99, 1, 99),),)), RULE, 2), [0, 99])
        self.assertEqual(here(((99, 99, 9), (((99, 9, 99),),)), RULE, 10), [0, 9, 18, 27, 36, 45, 54, 63, 72, 99])


class HowManyBeatsTest(unittest.TestCase):
    world = ((9, 0, 1), (((2, 3, 1),),))

    def test_none_and_one(self):
        self.assertEqual(beats(self.world, RULE, 0), [])
        self.assertEqual(beats(self.world, RULE, 1), [(0, [])])

    def test_five_hundred(self):
        told = beats(self.world, RULE, 500)
        self.assertEqual(len(told), 500)
        self.assertEqual(told[:6], [(0, []), (1, []), (0, [0]), (1, []), (2, []), (4, [])])
        self.assertEqual(told[499], (9, []))

    def test_beyond(self):
        for many in (-1, 501, -500, 10 ** 12):
            self.assertEqual(refusal(beats, self.world, RULE, many), ("BadCount", {}))

    def test_kinds(self):
        told = beats(self.world, RULE, 4)
        self.assertIs(type(told), list)
        self.assertEqual([type(row) for row in told], [tuple] * 4)
        self.assertEqual([type(row[1]) for row in told], [list] * 4)
        self.assertIs(type(ends(self.world, RULE)), list)
        self.assertIs(type(waits(self.world, RULE)), list)


class EndsAndWaitsTest(unittest.TestCase):
    def assert_both(self, world, rule, wanted_ends, wanted_waits):
        with self.subTest(world=world, rule=rule):
            self.assertEqual(ends(world, rule), wanted_ends)
            self.assertEqual(waits(world, rule), wanted_waits)

    def test_nothing_to_do(self):
        self.assert_both(((5, 0, 1), ()), RULE, [], [])
        self.assert_both(((5, 0, 0), ((), ())), RULE, [0, 0], [0, 0])
        self.assert_both(((5, 0, 1), ((),)), RULE, [0], [0])

    def test_last_step_and_not_its_begin(self):
        self.assert_both(((5, 5, 0), (((1, 4, 0), (1, 9, 0)), ())), RULE, [13, 0], [0, 0])

    def test_never_where_others_end(self):
        world = ((3, 3, 0), (((2, 2, 0),), ((2, 1, 0),), (), ((1, 1, 1),)))
        self.assert_both(world, ("rank", True), [2, None, 0, 1], [0, None, 0, 0])
        self.assert_both(world, ("rank", False), [2, None, 0, None], [0, None, 0, None])
        self.assert_both(world, ("least", True), [2, None, 0, 1], [0, None, 0, 0])

    def test_never_though_it_began(self):
        world = ((3, 3, 0), (((1, 2, 0), (3, 1, 0)), ((1, 3, 1), (1, 1, 1))))
        self.assert_both(world, RULE, [None, 4], [None, 0])

    def test_never_behind_one_that_never_can(self):
        world = ((3, 2, 0), (((0, 2, 0),), ((3, 1, 0),), ((0, 1, 0),)))
        self.assert_both(world, ("rank", False), [2, None, None], [0, None, None])
        self.assert_both(world, ("rank", True), [2, None, 1], [0, None, 0])
        self.assert_both(world, ("least", False), [2, None, 1], [0, None, 0])

    def test_what_is_given_back_late_still_comes(self):
        world = ((9, 9, 0), (((9, 9, 4), (4, 9, 4)), ((4, 1, 0),), ((1, 1, 0),)))
        self.assert_both(world, ("rank", True), [18, 19, None], [0, 18, None])
        world = ((9, 9, 0), (((9, 9, 5), (4, 9, 4)), ((4, 1, 0),), ((1, 1, 0),)))
        self.assert_both(world, ("rank", True), [18, 19, 10], [0, 18, 9])

    def test_nothing_is_there_at_beat_0(self):
        self.assert_both(((99, 0, 1), (((99, 9, 99),),)), RULE, [108], [99])
        self.assert_both(((99, 0, 0), (((1, 9, 1),),)), RULE, [None], [None])

    def test_long_behind_500_beats(self):
        world = ((99, 0, 1), (((99, 1, 0),) * 6,) * 5)
        told = ends(world, RULE)
        self.assertEqual(told, [595, 1189, 1783, 2377, 2971])
        # Of each machine: all beats but those of its six steps, up to the one it ends at.
        self.assertEqual(waits(world, RULE), [at - 6 for at in told])

    def test_a_beat_that_ends_a_step_may_be_waited_in(self):
        world = ((2, 2, 0), (((2, 2, 2), (1, 1, 1)), ((2, 3, 2),)))
        # By "wait" machine 0 is over at beat 2, and waits there and at 3 and 4.
        self.assert_both(world, ("wait", True), [6, 5], [3, 2])

    def test_waits_of_all_steps_together(self):
        world = ((2, 0, 1), (((2, 1, 0), (2, 1, 0), (1, 1, 0)),))
        # It draws at beats 2, 4 and 5.
        self.assert_both(world, RULE, [6], [3])


if __name__ == "__main__":
    unittest.main()
