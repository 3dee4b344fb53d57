"""Promise 6: the round to which machines come that begin anew, and how many steps are over."""

import unittest

from asking import RIGHTS, RULE, refusal
from onebreath.rounds import after, period
from slow_model import slow_after

RULES = [(right, passing) for right in RIGHTS for passing in (True, False)]


def free_machine(total):
    """A machine that draws nothing and begins anew after so many beats."""
    nines, rest = divmod(total, 9)
    return ((0, 9, 0),) * nines + (((0, rest, 0),) if rest else ())


class PeriodTest(unittest.TestCase):
    def test_first_is_1_at_the_least(self):
        for rule in RULES:
            self.assertEqual(period(((5, 5, 0), ()), rule), (1, 1, ()))
            self.assertEqual(period(((5, 5, 1), ()), rule), (1, 1, ()))
            self.assertEqual(period(((5, 0, 0), ()), rule), (1, 1, ()))
            self.assertEqual(period(((5, 0, 0), (((0, 3, 0),),)), rule)[:2], (1, 3))

    def test_first_is_when_the_store_is_full(self):
        # Ahead of beats 1 to 5 there are 3, 5, 7, 9, 10.
        for rule in RULES:
            self.assertEqual(period(((10, 3, 2), ()), rule), (5, 1, ()))
            self.assertEqual(period(((10, 3, 2), ((),)), rule), (5, 1, (0,)))
        self.assertEqual(period(((99, 0, 1), ()), RULE), (100, 1, ()))
        self.assertEqual(period(((99, 98, 1), ()), RULE), (2, 1, ()))

    def test_one_machine(self):
        for rule in RULES:
            world = ((5, 5, 0), (((0, 1, 0),),))
            self.assertEqual(period(world, rule), (1, 1, (1,)))
            world = ((5, 5, 0), (((5, 3, 5),),))
            self.assertEqual(period(world, rule), (1, 3, (1,)))
            world = ((5, 5, 0), (((5, 3, 5), (1, 1, 1), (0, 2, 0)),))
            self.assertEqual(period(world, rule), (1, 6, (3,)))

    def test_steps_that_are_alike_are_still_two(self):
        world = ((5, 5, 0), (((1, 2, 1), (1, 2, 1)),))
        for rule in RULES:
            self.assertEqual(period(world, rule), (1, 4, (2,)))

    def test_first_goes_by_how_much_is_there(self):
        # It draws 1 and 2 in turn at beats 0 to 4, which leaves 2, 1, 1, 0, 0; at 5 it can't, at 6
        # it draws 2 of 2: ahead of beats 4 and 7 there is 0, and it is at its step that drew 2.
        world = ((3, 3, 1), (((1, 1, 0), (2, 1, 0)),))
        for rule in RULES:
            self.assertEqual(period(world, rule), (4, 3, (2,)))

    def test_nothing_can_ever_begin(self):
        for rule in RULES:
            world = ((5, 2, 0), (((3, 1, 0),), ((4, 9, 4), (0, 1, 0))))
            self.assertEqual(period(world, rule), (1, 1, (0, 0)))
            self.assertEqual(after(world, rule, 10 ** 12), [0, 0])

    def test_all_comes_to_a_stop(self):
        # It draws at 0, 2 and 4, and then nothing is left: ahead of beat 7 it waits, for ever.
        world = ((3, 3, 0), (((1, 2, 0),),))
        for rule in RULES:
            self.assertEqual(period(world, rule), (7, 1, (0,)))
            self.assertEqual([after(world, rule, many) for many in (2, 3, 6, 7, 99)], [[0], [1], [2], [3], [3]])

    def test_a_step_that_is_over_now_is_not_yet_waiting(self):
        # Ahead of beat 1 the step is over at 1; ahead of beat 2 the machine waits: not alike.
        world = ((1, 1, 0), (((1, 1, 0),),))
        for rule in RULES:
            self.assertEqual(period(world, rule), (2, 1, (0,)))

    def test_machines_without_steps(self):
        for rule in RULES:
            self.assertEqual(period(((5, 5, 0), ((),)), rule), (1, 1, (0,)))
            self.assertEqual(period(((5, 5, 0), ((), ((0, 2, 0),), ())), rule), (1, 2, (0, 1, 0)))
            self.assertEqual(after(((5, 5, 0), ((), ((0, 2, 0),), ())), rule, 7), [0, 3, 0])

    def test_a_machine_without_steps_does_not_wait(self):
        # Machine 2 waits from beat 0 on ahead of beat 1, from beat 2 on ahead of beat 3: a machine 0
        # that waited all along would make these unlike.
        world = ((1, 1, 0), ((), ((1, 1, 1),), ((1, 1, 1),)))
        self.assertEqual(period(world, ("wait", True)), (1, 2, (0, 1, 1)))

    def test_all_machines_together(self):
        world = ((9, 9, 0), (((1, 4, 1),), ((2, 6, 2),), ((3, 9, 3),)))
        for right in ("rank", "wait", "least"):
            self.assertEqual(period(world, (right, True)), (1, 36, (9, 6, 4)))
        # Machine 2 drew last ahead of beats 1 to 4, machine 0 ahead of 37 to 40: it did at 32, so
        # at 36 the turn was 1, 2, 0.
        self.assertEqual(period(world, ("turns", True)), (5, 36, (9, 6, 4)))

    def test_rank_lets_one_wait_for_ever(self):
        # Ahead of beat 2 there is 1, and all wait; so it is ahead of beat 5.
        world = ((3, 0, 1), (((3, 1, 0),), ((3, 1, 0),)))
        for rule in (("rank", True), ("rank", False), ("least", True), ("least", False)):
            self.assertEqual(period(world, rule), (2, 3, (1, 0)))

    def test_round_only_by_who_drew_last(self):
        # Ahead of beats 2 and 5 there is 1, and all wait: but before any drew, and behind machine 0.
        # Ahead of beats 4 and 10 machine 0 is at its step and drew last.
        world = ((3, 0, 1), (((3, 1, 0),), ((3, 1, 0),)))
        for passing in (True, False):
            self.assertEqual(period(world, ("turns", passing)), (4, 6, (1, 1)))

    def test_who_drew_last_counts_though_nothing_else_does(self):
        # Ahead of beats 2 and 8 all is alike, but that none drew yet or machine 1 did.
        world = ((3, 0, 1), ((), ((3, 1, 0),)))
        self.assertEqual(period(world, ("turns", True)), (4, 3, (0, 1)))
        self.assertEqual(period(world, ("rank", True)), (2, 3, (0, 1)))
        self.assertEqual(period(world, ("wait", True)), (2, 3, (0, 1)))

    def test_round_only_by_who_waits_longer(self):
        # Ahead of beats 2 and 5 there is 1, and all wait: as long as each other, then 1 longer.
        world = ((3, 0, 1), (((3, 1, 0),), ((3, 1, 0),)))
        for passing in (True, False):
            self.assertEqual(period(world, ("wait", passing)), (4, 6, (1, 1)))

    def test_who_waits_as_long_is_not_who_waits_longer(self):
        # There is 1 and all wait ahead of beat 2, both as long, and ahead of beat 6, machine 0
        # longer: machine 0 draws next both times, but all is not alike.
        world = ((2, 0, 1), (((2, 2, 0),), ((2, 1, 0),)))
        first, long, counts = period(world, ("wait", True))
        self.assertEqual((first, long, counts), (3, 4, (1, 1)))

    def test_only_who_waits_longer_and_not_by_how_much(self):
        # Machine 1 waits longer and longer for what is never there, 0 and 2 draw in turn at 0, 2,
        # 5, 7. Ahead of beat 1 machine 2 waits as long as machine 1, ahead of beat 6 it doesn't.
        world = ((5, 1, 0), (((1, 2, 1),), ((2, 1, 2),), ((1, 3, 1),)))
        self.assertEqual(period(world, ("wait", True)), (3, 5, (1, 0, 1)))

    def test_first_as_little_as_can_be_then_long(self):
        # It draws at 0, 2, 5, 8 ..: ahead of beats 2, 5, 8 there are 2 and it waits, ahead of
        # beat 1 there is 1 and it is at its step, which is so only once.
        world = ((4, 4, 1), (((3, 1, 0),),))
        for rule in RULES:
            self.assertEqual(period(world, rule), (2, 3, (1,)))

    def test_kinds(self):
        told = period(((5, 5, 0), ((), ((0, 2, 0),))), RULE)
        self.assertIs(type(told), tuple)
        self.assertIs(type(told[2]), tuple)


class AfterTest(unittest.TestCase):
    world = ((7, 3, 1), (((3, 2, 1), (2, 1, 2)), (), ((4, 3, 2),), ((0, 2, 0), (1, 4, 0))))

    def test_none(self):
        for rule in RULES:
            self.assertEqual(after(self.world, rule, 0), [0, 0, 0, 0])
            self.assertEqual(after(((5, 5, 0), ()), rule, 0), [])
            self.assertEqual(after(((5, 5, 0), ()), rule, 10 ** 12), [])

    def test_a_beat_counts_once_it_is_done(self):
        # Its steps are over at beats 3, 6 and so on: at 3 the fourth beat.
        world = ((5, 5, 0), (((0, 3, 0),),))
        told = [after(world, RULE, many) for many in range(9)]
        self.assertEqual(told, [[0], [0], [0], [0], [1], [1], [1], [2], [2]])

    def test_small_numbers_one_by_one(self):
        for rule in RULES:
            for many in range(90):
                self.assertEqual(after(self.world, rule, many), slow_after(self.world, rule, many))

    def test_ten_to_the_twelfth(self):
        world = ((5, 5, 0), (((0, 3, 0),), ((0, 1, 0), (0, 1, 0)), ((5, 7, 5),)))
        # Over at 3, 6 ..; at 1, 2 ..; at 7, 14 ..: each at beats below 10 ** 12.
        wanted = [(10 ** 12 - 1) // 3, 10 ** 12 - 1, (10 ** 12 - 1) // 7]
        for rule in RULES:
            self.assertEqual(after(world, rule, 10 ** 12), wanted)
        self.assertEqual(after(((5, 5, 0), (((0, 1, 0),),)), RULE, 10 ** 12 - 1), [10 ** 12 - 2])

    def test_far_off_by_the_round(self):
        for rule in RULES:
            first, long, counts = period(self.world, rule)
            for many in (first, first + 1, first + long - 1, first + long, first + long + 1):
                early = after(self.world, rule, many)
                late = after(self.world, rule, many + 10 ** 9 * long)
                gained = [10 ** 9 * count for count in counts]
                self.assertEqual([had + more for had, more in zip(early, gained)], late)

    def test_beyond(self):
        for many in (-1, 10 ** 12 + 1, -10 ** 12, 10 ** 13):
            self.assertEqual(refusal(after, self.world, RULE, many), ("BadCount", {}))

    def test_kind(self):
        for many in (0, 3, 10 ** 12):
            self.assertIs(type(after(self.world, RULE, many)), list)


class TooManyTest(unittest.TestCase):
    # Beats 27, 37 and 5 come round after 4,995; the store is full ahead of beat 5, or of beat 6.
    machines = (free_machine(27), free_machine(37), free_machine(5))
    just = ((9, 5, 1), machines)
    more = ((9, 4, 1), machines)

    def test_just_five_thousand(self):
        for rule in (("rank", True), ("rank", False), ("least", True), ("least", False)):
            self.assertEqual(period(self.just, rule), (5, 4995, (3 * 185, 5 * 135, 999)))
        self.assertEqual(after(self.just, RULE, 0), [0, 0, 0])
        self.assertEqual(after(self.just, RULE, 4996), [3 * 185, 5 * 135, 999])
        self.assertEqual(after(self.just, RULE, 4995 * 10 ** 8 + 1), [3 * 185 * 10 ** 8, 5 * 135 * 10 ** 8, 999 * 10 ** 8])

    def test_one_more(self):
        for rule in (("rank", True), ("rank", False), ("least", True), ("least", False)):
            self.assertEqual(refusal(period, self.more, rule), ("TooMany", {}))
            for many in (0, 1, 500, 10 ** 12):
                self.assertEqual(refusal(after, self.more, rule, many), ("TooMany", {}))

    def test_by_first_more_than_by_long(self):
        # Beats 49, 51 and 2 come round after 4,998.
        machines = (free_machine(49), free_machine(51), free_machine(2))
        self.assertEqual(period(((9, 8, 1), machines), RULE)[:2], (2, 4998))
        self.assertEqual(refusal(period, ((9, 7, 1), machines), RULE), ("TooMany", {}))
        self.assertEqual(period(((9, 9, 1), machines), RULE)[:2], (1, 4998))

    def test_far_more(self):
        machines = tuple([free_machine(total) for total in (53, 47, 43, 41, 37)])
        for rule in RULES:
            self.assertEqual(refusal(period, ((9, 9, 1), machines), rule), ("TooMany", {}))
            self.assertEqual(refusal(after, ((9, 9, 1), machines), rule, 1), ("TooMany", {}))


if __name__ == "__main__":
    unittest.main()
