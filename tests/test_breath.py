"""Promise 10: a store that goes on, what each method does and what it refuses."""

import unittest

from asking import RULE, RULES, kinds, refusal
from onebreath.halls import Breath, again

STEP = (1, 1, 1)
BAD_COUNT = ("BadCount", {})
BAD_STORE = ("BadStore", {})


def bad_step(machine, step):
    return ("BadStep", {"machine": machine, "step": step})


def no_machine(number):
    return ("NoMachine", {"number": number})


def look(breath):
    """All that a Breath tells of itself."""
    return (breath.standing(), breath.stock(), breath.deeds())


class Going(unittest.TestCase):
    def made(self, store, rule, *machines):
        breath = Breath(store, rule)
        for steps in machines:
            breath.enter(steps)
        return breath

    def ticked(self, breath, many):
        return [breath.tick() for _ in range(many)]

    def assert_refused(self, breath, word, handed, wanted):
        """It is refused so, and all that the Breath tells of itself is as it was."""
        before = look(breath)
        self.assertEqual(refusal(getattr(breath, word), handed), wanted, (word, handed))
        self.assertEqual(look(breath), before)

    def assert_goes_on_alike(self, breath, other, many):
        for _ in range(many):
            self.assertEqual(breath.tick(), other.tick())
            self.assertEqual(look(breath), look(other))


class MakingTest(unittest.TestCase):
    def test_without_machines(self):
        for rule in RULES:
            breath = Breath((9, 4, 2), rule)
            self.assertEqual(kinds(look(breath)), kinds(([], (9, 4, 2, 0), [])))
            self.assertEqual(breath.tick(), ([], [], 4))
            self.assertEqual(breath.tick(), ([], [], 6))

    def test_edges(self):
        for store in ((1, 0, 0), (1, 1, 9), (99, 0, 9), (99, 99, 0)):
            self.assertEqual(Breath(store, RULE).stock(), store + (0,))
            self.assertEqual(again(store, RULE, []).stock(), store + (0,))

    def test_store_then_rule(self):
        stores = ((0, 0, 0), (100, 0, 0), (5, -1, 0), (5, 6, 0), (5, 5, -1), (5, 5, 10), (), (5, 5), (5, 5, 1, 1))
        rules = (("first", True), ("", True), ("rank",), (), ("rank", True, True))
        for store in stores:
            for rule in rules + (RULE,):
                self.assertEqual(refusal(Breath, store, rule), BAD_STORE)
                self.assertEqual(refusal(again, store, rule, [("none",)]), BAD_STORE)
        for rule in rules:
            self.assertEqual(refusal(Breath, (5, 5, 1), rule), ("BadRule", {}))
            self.assertEqual(refusal(again, (5, 5, 1), rule, [("none",)]), ("BadRule", {}))


class EnterTest(Going):
    def test_tells_its_number(self):
        breath = Breath((9, 4, 2), RULE)
        self.assertEqual(kinds([breath.enter((STEP,)) for _ in range(5)]), kinds([0, 1, 2, 3, 4]))

    def test_no_steps(self):
        breath = self.made((9, 4, 2), RULE, (), (STEP,))
        self.assertEqual(breath.standing(), [(0, None, False), (0, None, False)])
        self.assertEqual(breath.tick(), ([], [1], 3))

    def test_steps_that_cannot_be(self):
        breath = self.made((5, 5, 1), RULE, (STEP,), ())
        for step in ((6, 1, 0), (-1, 1, 0), (3, 0, 0), (3, 10, 0), (3, 1, 4), (3, 1, -1), (3, 1), (), (3, 1, 0, 0)):
            self.assert_refused(breath, "enter", (step,), bad_step(2, 0))
            self.assert_refused(breath, "enter", (STEP, STEP, step, step), bad_step(2, 2))
        self.assert_refused(breath, "enter", (STEP,) * 7, bad_step(2, 6))
        self.assert_refused(breath, "enter", (STEP,) * 6 + ((9, 9, 9),), bad_step(2, 6))
        self.assertEqual(breath.enter(((5, 9, 5), (0, 1, 0)) * 3), 2)

    def test_a_sixth(self):
        breath = self.made((5, 5, 1), RULE, *[(STEP,)] * 5)
        self.assert_refused(breath, "enter", (STEP, (6, 1, 0)), bad_step(5, 1))
        self.assert_refused(breath, "enter", (STEP,) * 7, bad_step(5, 6))
        self.assert_refused(breath, "enter", (STEP,), BAD_COUNT)
        self.assert_refused(breath, "enter", (), BAD_COUNT)
        self.ticked(breath, 3)
        # Machines at their end are still machines.
        self.assert_refused(breath, "enter", (STEP,), BAD_COUNT)

    def test_a_refused_one_has_no_number(self):
        breath = Breath((5, 5, 1), RULE)
        self.assertEqual(refusal(breath.enter, ((6, 1, 0),)), bad_step(0, 0))
        self.assertEqual(breath.enter((STEP,)), 0)

    def test_draws_go_by_the_cap_that_is(self):
        breath = Breath((5, 5, 1), RULE)
        self.assert_refused(breath, "enter", ((6, 1, 0),), bad_step(0, 0))
        breath.merge((1, 0, 0))
        self.assertEqual(breath.enter(((6, 1, 0),)), 0)
        self.assert_refused(breath, "enter", ((7, 1, 0),), bad_step(1, 0))

    def test_waits_from_the_next_beat_on(self):
        breath = self.made((5, 5, 0), RULE, ((1, 9, 0),))
        self.assertEqual(breath.tick(), ([], [0], 4))
        breath.enter(((2, 1, 2),))
        self.assertEqual(breath.tick(), ([], [1], 2))
        self.assertEqual(breath.tick(), ([1], [], 4))

    def test_by_wait_from_the_next_beat_on(self):
        for first in (True, False):
            breath = Breath((3, 0, 0), ("wait", True))
            breath.enter(((2, 1, 0),) if first else ())
            self.ticked(breath, 2)
            # Machine 0 waits for two beats already, then 1 and 2 come in at one beat.
            breath.enter(((2, 1, 2), (2, 1, 2)))
            breath.enter(((2, 1, 2),))
            breath.merge((2, 2, 0))
            told = self.ticked(breath, 3)
            if first:
                self.assertEqual([row[1] for row in told], [[0], [], []])
            else:
                self.assertEqual([row[1] for row in told], [[1], [2], [1]])


    def test_by_wait_as_long_as_one_whose_step_is_over_then(self):
        breath = self.made((3, 3, 0), ("wait", True), ((1, 3, 1), (3, 1, 3)))
        self.ticked(breath, 3)
        breath.enter(((3, 1, 3),))
        self.assertEqual([row[1] for row in self.ticked(breath, 2)], [[0], [1]])
        breath = self.made((3, 3, 0), ("wait", True), ((1, 4, 1), (3, 1, 3)))
        self.ticked(breath, 3)
        breath.enter(((3, 1, 3),))
        self.assertEqual([row[1] for row in self.ticked(breath, 3)], [[], [1], [0]])


class TickTest(Going):
    def test_three_things(self):
        breath = self.made((5, 3, 1), RULE, ((2, 2, 1), (2, 1, 0)), ((1, 2, 1),))
        wanted = [([], [0, 1], 0), ([], [], 1), ([0, 1], [0], 2), ([0], [], 3), ([], [], 4), ([], [], 5), ([], [], 5)]
        for row in wanted:
            self.assertEqual(kinds(breath.tick()), kinds(row))

    def test_over_rises_and_begun_is_in_turn(self):
        breath = self.made((9, 9, 0), ("least", True), ((3, 1, 3),) * 2, ((1, 1, 1), (4, 1, 4)), ((2, 1, 2),) * 2)
        self.assertEqual(breath.tick(), ([], [1, 2, 0], 3))
        self.assertEqual(breath.tick(), ([0, 1, 2], [2, 0, 1], 0))
        self.assertEqual(breath.tick(), ([0, 1, 2], [], 9))

    def test_no_refill_at_beat_0_alone(self):
        breath = Breath((9, 1, 3), RULE)
        self.assertEqual([row[2] for row in self.ticked(breath, 5)], [1, 4, 7, 9, 9])

    def test_told_is_the_callers_own(self):
        breath = self.made((9, 9, 0), RULE, (STEP, STEP), (STEP, STEP))
        other = self.made((9, 9, 0), RULE, (STEP, STEP), (STEP, STEP))
        for _ in range(4):
            for told in breath.tick()[:2]:
                told.clear()
                told.append(7)
            other.tick()
            self.assertEqual(look(breath), look(other))


class PauseTest(Going):
    def test_one_that_waits(self):
        breath = self.made((5, 5, 0), RULE, (STEP,), (STEP,))
        self.assertIsNone(breath.pause(0))
        self.assertEqual(breath.tick(), ([], [1], 4))
        self.assertEqual(breath.tick(), ([1], [], 5))
        self.assertIsNone(breath.go(0))
        self.assertEqual(breath.tick(), ([], [0], 4))

    def test_one_that_works(self):
        breath = self.made((5, 5, 0), RULE, ((2, 3, 1), (1, 1, 0)))
        breath.tick()
        breath.pause(0)
        # What it does goes on, and gives back; then it doesn't wait.
        self.assertEqual(self.ticked(breath, 5), [([], [], 3), ([], [], 3), ([0], [], 4), ([], [], 4), ([], [], 4)])
        self.assertEqual(breath.standing(), [(1, None, True)])
        breath.go(0)
        self.assertEqual(breath.tick(), ([], [0], 3))
        self.assertEqual(breath.tick(), ([0], [], 3))

    def test_let_go_on_while_it_works(self):
        breath = self.made((5, 5, 0), RULE, ((2, 3, 1), (1, 1, 0)))
        breath.tick()
        breath.pause(0)
        breath.tick()
        breath.go(0)
        self.assertEqual(self.ticked(breath, 3), [([], [], 3), ([0], [0], 3), ([0], [], 3)])

    def test_one_at_its_end(self):
        breath = self.made((5, 5, 0), RULE, (), (STEP,))
        self.ticked(breath, 2)
        for number, at in ((0, 0), (1, 1)):
            breath.pause(number)
            self.assertEqual(breath.standing()[number], (at, None, True))
            self.assertEqual(breath.tick(), ([], [], 5))
            breath.go(number)
            self.assertEqual(breath.standing()[number], (at, None, False))
            self.assertEqual(breath.tick(), ([], [], 5))

    def test_no_machine(self):
        breath = self.made((5, 5, 0), RULE, (STEP,), (STEP,), ())
        for word in ("pause", "go"):
            for number in (-1, 3, -3, 5, 99):
                self.assert_refused(breath, word, number, no_machine(number))
        for number in range(3):
            self.assert_refused(breath, "go", number, no_machine(number))
            breath.pause(number)
            self.assert_refused(breath, "pause", number, no_machine(number))
            breath.go(number)
            self.assert_refused(breath, "go", number, no_machine(number))
        for word in ("pause", "go"):
            self.assert_refused(Breath((5, 5, 0), RULE), word, 0, no_machine(0))
            self.assert_refused(Breath((5, 5, 0), RULE), word, -1, no_machine(-1))

    def test_one_paused_stands_in_nobodys_way(self):
        breath = self.made((5, 3, 0), ("rank", False), ((5, 1, 0),), ((1, 1, 1), (1, 1, 1)))
        self.assertEqual(breath.tick(), ([], [], 3))
        breath.pause(0)
        self.assertEqual(breath.tick(), ([], [1], 2))
        breath.go(0)
        self.assertEqual(breath.tick(), ([1], [], 3))

    def test_by_wait_from_the_next_beat_on(self):
        breath = self.made((2, 0, 0), ("wait", True), ((2, 1, 2),), ((2, 1, 2),))
        breath.tick()
        breath.pause(0)
        breath.go(0)
        # Machine 0 waits from beat 1 on only, machine 1 from beat 0 on.
        breath.merge((2, 2, 0))
        self.assertEqual([row[1] for row in self.ticked(breath, 2)], [[1], [0]])

    def test_by_wait_as_long_as_one_whose_step_is_over_then(self):
        for pauses, rows in ((2, [[], [1], [0]]), (3, [[0], [1]])):
            # Machine 1 is let go on ahead of beat 3; machine 0's step is over at 4, or at 3.
            breath = self.made((3, 3, 0), ("wait", True), ((1, 6 - pauses, 1), (3, 1, 3)), ((3, 1, 3),))
            breath.tick()
            breath.pause(1)
            self.ticked(breath, 2)
            breath.go(1)
            self.assertEqual([row[1] for row in self.ticked(breath, len(rows))], rows)

    def test_by_wait_paused_ahead_of_the_next_beat(self):
        # The next beat is beat 0, from which all wait: nothing is lost.
        breath = self.made((2, 2, 0), ("wait", True), ((2, 1, 2),), ((2, 1, 2),))
        breath.pause(0)
        breath.go(0)
        self.assertEqual(breath.tick(), ([], [0], 0))

    def test_by_wait_from_the_end_of_what_it_did(self):
        breath = self.made((4, 4, 0), ("wait", True), ((1, 3, 1), (4, 1, 4)), ((1, 2, 1), (4, 1, 4)))
        breath.tick()
        breath.pause(1)
        breath.go(1)
        # Machine 1 worked on, and waits from beat 2 on; machine 0 from beat 3 on.
        self.assertEqual([row[1] for row in self.ticked(breath, 4)], [[], [], [1], [0]])

    def test_by_turns_and_by_least(self):
        breath = self.made((1, 1, 1), ("turns", True), *[((1, 1, 0),) * 3] * 3)
        self.assertEqual([row[1] for row in self.ticked(breath, 2)], [[0], [1]])
        breath.pause(2)
        self.assertEqual([row[1] for row in self.ticked(breath, 2)], [[0], [1]])
        breath.go(2)
        self.assertEqual([row[1] for row in self.ticked(breath, 2)], [[2], [0]])
        breath = self.made((9, 2, 0), ("least", False), ((1, 1, 1),) * 3, ((2, 1, 2),))
        breath.pause(0)
        self.assertEqual(breath.tick(), ([], [1], 0))
        breath.go(0)
        self.assertEqual(breath.tick(), ([1], [0], 1))


class LoanTest(Going):
    def test_lend_at_its_edges(self):
        for many in (1, 2, 4, 5):
            breath = Breath((9, 5, 0), RULE)
            self.assertIsNone(breath.lend(many))
            self.assertEqual(breath.stock(), (9, 5 - many, 0, many))
        breath = Breath((9, 5, 0), RULE)
        for many in (0, -1, 6, 9, 10, 99):
            self.assert_refused(breath, "lend", many, BAD_COUNT)
        breath.lend(5)
        self.assert_refused(breath, "lend", 1, BAD_COUNT)
        self.assert_refused(breath, "lend", 0, BAD_COUNT)

    def test_back_at_its_edges(self):
        breath = Breath((9, 5, 0), RULE)
        for many in (1, 0, -1):
            self.assert_refused(breath, "back", many, BAD_COUNT)
        breath.lend(4)
        for many in (0, -1, 5, 9):
            self.assert_refused(breath, "back", many, BAD_COUNT)
        self.assertIsNone(breath.back(1))
        self.assertEqual(breath.stock(), (9, 2, 0, 3))
        self.assert_refused(breath, "back", 4, BAD_COUNT)
        breath.back(3)
        self.assertEqual(breath.stock(), (9, 5, 0, 0))
        self.assert_refused(breath, "back", 1, BAD_COUNT)

    def test_what_the_store_does_not_hold_is_lost(self):
        breath = Breath((9, 8, 2), RULE)
        breath.lend(5)
        self.ticked(breath, 3)
        self.assertEqual(breath.stock(), (9, 7, 2, 5))
        breath.back(4)
        self.assertEqual(breath.stock(), (9, 9, 2, 1))
        # What was lost is not lent any more.
        self.assert_refused(breath, "back", 2, BAD_COUNT)
        breath.back(1)
        self.assertEqual(breath.stock(), (9, 9, 2, 0))

    def test_what_is_lent_cannot_be_drawn(self):
        breath = self.made((5, 5, 0), RULE, ((4, 1, 4),))
        breath.lend(2)
        self.assertEqual(breath.tick(), ([], [], 3))
        breath.back(1)
        self.assertEqual(breath.tick(), ([], [0], 0))
        self.assert_refused(breath, "lend", 1, BAD_COUNT)
        self.assertEqual(breath.tick(), ([0], [], 4))
        self.assertEqual(breath.stock(), (5, 4, 0, 1))

    def test_more_than_ever_fits(self):
        breath = Breath((9, 9, 9), RULE)
        for _ in range(20):
            breath.lend(9)
            breath.tick()
            breath.tick()
        self.assertEqual(breath.stock(), (9, 9, 9, 180))
        breath.lend(9)
        breath.back(189)
        self.assertEqual(breath.stock(), (9, 9, 9, 0))


class MergeTest(Going):
    def test_all_three_are_put_together(self):
        breath = Breath((9, 5, 2), RULE)
        self.assertIsNone(breath.merge((4, 1, 3)))
        self.assertEqual(breath.stock(), (13, 6, 5, 0))
        self.assertEqual([row[2] for row in self.ticked(breath, 4)], [6, 11, 13, 13])
        breath.merge((1, 0, 0))
        self.assertEqual(breath.stock(), (14, 13, 5, 0))
        self.assertEqual(breath.tick(), ([], [], 14))

    def test_what_is_lent_stays_so(self):
        breath = Breath((9, 5, 2), RULE)
        breath.lend(5)
        breath.merge((4, 4, 0))
        self.assertEqual(breath.stock(), (13, 4, 2, 5))

    def test_up_to_99_and_9(self):
        breath = Breath((60, 60, 4), RULE)
        self.assert_refused(breath, "merge", (40, 0, 0), BAD_COUNT)
        self.assert_refused(breath, "merge", (1, 0, 6), BAD_COUNT)
        self.assert_refused(breath, "merge", (40, 40, 6), BAD_COUNT)
        breath.merge((39, 39, 5))
        self.assertEqual(breath.stock(), (99, 99, 9, 0))
        self.assert_refused(breath, "merge", (1, 0, 0), BAD_COUNT)
        breath = Breath((60, 60, 9), RULE)
        self.assert_refused(breath, "merge", (1, 0, 1), BAD_COUNT)
        breath.merge((1, 0, 0))
        breath.merge((38, 0, 0))
        self.assertEqual(breath.stock(), (99, 60, 9, 0))

    def test_a_store_that_cannot_be(self):
        breath = Breath((60, 60, 4), RULE)
        for store in ((0, 0, 0), (100, 0, 0), (5, -1, 0), (5, 6, 0), (5, 5, -1), (5, 5, 10), (40, 41, 0), (), (5, 5)):
            self.assert_refused(breath, "merge", store, BAD_STORE)
        # It is looked at by itself first: then what comes of both.
        self.assert_refused(breath, "merge", (99, 0, 10), BAD_STORE)
        self.assert_refused(breath, "merge", (99, 0, 9), BAD_COUNT)

    def test_machines_may_draw_of_it(self):
        breath = self.made((3, 1, 0), RULE, ((3, 1, 0),))
        self.assertEqual(breath.tick(), ([], [], 1))
        breath.merge((2, 2, 0))
        self.assertEqual(breath.tick(), ([], [0], 0))


class RulesTest(Going):
    def test_each_right_in_a_store_that_goes_on(self):
        wanted = {
            "rank": [[0], [0], [0], [1], [2]],
            "turns": [[0], [1], [2], [0], [0]],
            "wait": [[0], [1], [0], [2], [0]],
            "least": [[1], [0], [0], [0], [2]],
        }
        for right, rows in wanted.items():
            draw = 2 if right == "least" else 3
            breath = self.made((3, 3, 3), (right, True), ((3, 1, 0),) * 3, ((draw, 1, 0),))
            first = breath.tick()[1]
            breath.enter(((3, 1, 0),))
            told = [first] + [row[1] for row in self.ticked(breath, 4)]
            with self.subTest(right):
                self.assertEqual(told, rows)

    def test_passing(self):
        for passing, rows in ((True, [[1], []]), (False, [[], []])):
            breath = self.made((3, 2, 0), ("rank", passing), ((3, 1, 0),), ((0, 1, 0),))
            self.assertEqual([row[1] for row in self.ticked(breath, 2)], rows)


class ApartTest(Going):
    def test_steps_and_stores_that_are_changed_later(self):
        steps, joined, store, rule = [[2, 1, 1], [1, 1, 1]], [4, 2, 1], [5, 3, 1], ["rank", True]
        breath, other = Breath(store, rule), Breath(store, rule)
        for one in (breath, other):
            one.enter(steps)
            one.merge(joined)
        self.assertEqual((steps, joined, store, rule), ([[2, 1, 1], [1, 1, 1]], [4, 2, 1], [5, 3, 1], ["rank", True]))
        kept = self.made((5, 3, 1), RULE, ((2, 1, 1), (1, 1, 1)))
        kept.merge((4, 2, 1))
        steps[0][0] = 9
        steps.append([9, 9, 9])
        joined[0] = store[0] = 1
        rule[0] = "least"
        self.assertEqual(look(breath), look(kept))
        other.lend(3)
        other.pause(0)
        self.assert_goes_on_alike(breath, kept, 6)
        self.assertEqual(other.stock()[3], 3)
        self.assertEqual(breath.stock()[3], 0)

    def test_two_that_were_given_the_same(self):
        steps, store = ((2, 3, 1), (1, 1, 1)), (5, 5, 1)
        breath, other = Breath(store, RULE), Breath(store, RULE)
        breath.enter(steps)
        self.assertEqual(look(other), ([], (5, 5, 1, 0), []))
        other.enter(steps)
        breath.tick()
        self.assertEqual(other.standing(), [(0, None, False)])
        self.assertEqual(breath.standing(), [(0, 2, False)])
        self.assertEqual(other.stock(), (5, 5, 1, 0))

    def test_told_lists_are_the_callers_own(self):
        breath = self.made((5, 5, 1), RULE, ((2, 3, 1),), ())
        breath.tick()
        before = look(breath)
        breath.standing().clear()
        breath.deeds().append(("tick",))
        breath.deeds().clear()
        self.assertEqual(look(breath), before)

    def test_a_refused_deed_changes_nothing_later(self):
        wrong = [
            ("enter", ((10, 1, 1),)), ("pause", 7), ("go", 0), ("pause", 1), ("lend", 99), ("lend", 0),
            ("back", 9), ("merge", (99, 0, 0)), ("merge", (1, 2, 0)), ("pause", -1), ("merge", (1, 1, 9)),
        ]
        for rule in RULES:
            breaths = []
            for _ in range(2):
                breath = self.made((9, 7, 1), rule, ((2, 3, 1), (7, 1, 0)), ((1, 2, 0), (2, 2, 2)), ((3, 1, 3),))
                breath.tick()
                breath.pause(1)
                breath.lend(1)
                breaths.append(breath)
            for _ in range(8):
                for word, handed in wrong:
                    self.assertIsNotNone(refusal(getattr(breaths[0], word), handed))
                self.assert_goes_on_alike(*breaths, 1)


if __name__ == "__main__":
    unittest.main()
