"""Promise 11: how machines stand, the stock, all that was done, and a Breath that does it again."""

import copy
import unittest

from asking import RULE, RULES, kinds, refusal
from onebreath.halls import Breath, again

STEP = (1, 1, 1)
STORE = (9, 7, 1)


def bad_deed(number):
    return ("BadDeed", {"number": number})


def look(breath):
    return (breath.standing(), breath.stock(), breath.deeds())


def some_breath(rule):
    """A Breath to which each deed was done once, and one refused."""
    breath = Breath(STORE, rule)
    breath.enter(((2, 3, 1), (7, 1, 0)))
    breath.tick()
    breath.enter([[1, 2, 0], [2, 2, 2]])
    breath.pause(0)
    refusal(breath.pause, 0)
    breath.lend(3)
    breath.tick()
    breath.go(0)
    breath.back(2)
    breath.merge([4, 1, 1])
    breath.enter(())
    return breath


class StandingTest(unittest.TestCase):
    def assert_standing(self, breath, wanted):
        self.assertEqual(kinds(breath.standing()), kinds(wanted))

    def test_none(self):
        self.assert_standing(Breath(STORE, RULE), [])

    def test_one_that_works(self):
        for long in range(1, 10):
            breath = Breath(STORE, RULE)
            breath.enter(((1, long, 1), (8, 1, 0)))
            self.assert_standing(breath, [(0, None, False)])
            # Begun at beat 0: ahead of beat b it is over long - b beats later than that.
            for beat in range(1, long + 1):
                breath.tick()
                self.assert_standing(breath, [(0, long - beat, False)])
            breath.lend(1)
            breath.lend(breath.stock()[1])
            breath.tick()
            self.assert_standing(breath, [(1, None, False)])

    def test_over_at_the_beat_behind_the_next(self):
        breath = Breath(STORE, RULE)
        breath.enter(((1, 2, 1),))
        breath.tick()
        self.assert_standing(breath, [(0, 1, False)])
        self.assertEqual([breath.tick()[0], breath.tick()[0]], [[], [0]])

    def test_one_that_waits_for_its_next(self):
        breath = Breath((5, 3, 0), RULE)
        breath.enter(((3, 1, 2), (3, 1, 0), STEP))
        for wanted in ((0, 0, False), (1, None, False), (1, None, False)):
            breath.tick()
            self.assert_standing(breath, [wanted])

    def test_one_at_its_end(self):
        breath = Breath(STORE, RULE)
        breath.enter(())
        breath.enter((STEP,) * 6)
        for _ in range(7):
            breath.tick()
        self.assert_standing(breath, [(0, None, False), (6, None, False)])

    def test_paused(self):
        breath = Breath(STORE, RULE)
        for steps in (((1, 5, 1),), (), ((9, 1, 9),), (STEP, (9, 1, 9))):
            breath.enter(steps)
        breath.tick()
        for number in range(4):
            breath.pause(number)
        self.assert_standing(breath, [(0, 4, True), (0, None, True), (0, None, True), (0, 0, True)])
        breath.tick()
        self.assert_standing(breath, [(0, 3, True), (0, None, True), (0, None, True), (1, None, True)])
        for number in range(4):
            breath.go(number)
        self.assert_standing(breath, [(0, 3, False), (0, None, False), (0, None, False), (1, None, False)])


class StockTest(unittest.TestCase):
    def test_behind_each_deed(self):
        breath = Breath((9, 7, 1), RULE)
        self.assertEqual(kinds(breath.stock()), kinds((9, 7, 1, 0)))
        breath.enter(((2, 2, 1),))
        self.assertEqual(breath.stock(), (9, 7, 1, 0))
        breath.tick()
        self.assertEqual(breath.stock(), (9, 5, 1, 0))
        breath.lend(4)
        self.assertEqual(kinds(breath.stock()), kinds((9, 1, 1, 4)))
        breath.lend(1)
        self.assertEqual(breath.stock(), (9, 0, 1, 5))
        breath.back(2)
        self.assertEqual(breath.stock(), (9, 2, 1, 3))
        breath.merge((11, 8, 3))
        self.assertEqual(kinds(breath.stock()), kinds((20, 10, 4, 3)))
        breath.pause(0)
        breath.go(0)
        self.assertEqual(breath.stock(), (20, 10, 4, 3))
        breath.tick()
        self.assertEqual(breath.stock(), (20, 14, 4, 3))
        breath.tick()
        self.assertEqual(kinds(breath.stock()), kinds((20, 19, 4, 3)))


class DeedsTest(unittest.TestCase):
    wanted = [
        ("enter", ((2, 3, 1), (7, 1, 0))), ("tick",), ("enter", ((1, 2, 0), (2, 2, 2))), ("pause", 0), ("lend", 3),
        ("tick",), ("go", 0), ("back", 2), ("merge", (4, 1, 1)), ("enter", ()),
    ]

    def test_none(self):
        breath = Breath(STORE, RULE)
        self.assertEqual(kinds(breath.deeds()), kinds([]))
        breath.standing()
        breath.stock()
        breath.deeds()
        self.assertEqual(breath.deeds(), [])

    def test_all_in_turn_with_tuples(self):
        for rule in RULES:
            self.assertEqual(kinds(some_breath(rule).deeds()), kinds(self.wanted))

    def test_tuples_whatever_was_handed_in(self):
        for steps in ([[1, 1, 1], [2, 2, 2]], ([1, 1, 1], (2, 2, 2)), [(1, 1, 1), [2, 2, 2]], [], ()):
            for store in ([4, 1, 1], (4, 1, 1)):
                breath = Breath(STORE, RULE)
                breath.enter(steps)
                breath.merge(store)
                wanted = [("enter", tuple([tuple(step) for step in steps])), ("merge", (4, 1, 1))]
                self.assertEqual(kinds(breath.deeds()), kinds(wanted))
                breath = again(STORE, RULE, [("enter", steps), ("merge", store)])
                self.assertEqual(kinds(breath.deeds()), kinds(wanted))

    def test_what_is_refused_is_not_done(self):
        breath = Breath(STORE, RULE)
        for word, handed in (
            ("enter", ((10, 1, 1),)), ("pause", 0), ("go", 0), ("lend", 8), ("back", 1), ("merge", (99, 1, 1)),
            ("merge", (0, 0, 0)),
        ):
            self.assertIsNotNone(refusal(getattr(breath, word), handed))
        self.assertEqual(breath.deeds(), [])


class AgainTest(unittest.TestCase):
    def test_nothing_done(self):
        for none in ([], ()):
            breath = again(STORE, RULE, none)
            self.assertIs(type(breath), Breath)
            self.assertEqual(look(breath), ([], STORE + (0,), []))

    def test_stands_the_same_and_goes_on_the_same(self):
        for rule in RULES:
            for kind in (list, tuple):
                breath = some_breath(rule)
                other = again(STORE, rule, kind(breath.deeds()))
                self.assertIs(type(other), Breath)
                self.assertEqual(kinds(look(other)), kinds(look(breath)))
                for _ in range(9):
                    self.assertEqual(other.tick(), breath.tick())
                    self.assertEqual(look(other), look(breath))

    def test_apart_from_the_one_whose_deeds_they_are(self):
        breath = some_breath(RULE)
        deeds = breath.deeds()
        other = again(STORE, RULE, deeds)
        before = look(breath)
        other.tick()
        other.pause(1)
        other.lend(1)
        self.assertEqual(look(breath), before)
        self.assertEqual(deeds, before[2])

    def test_a_list_of_deeds_that_is_changed_later(self):
        deeds = [["enter", [[2, 1, 1], [1, 1, 1]]], ("tick",), ["merge", [4, 1, 1]]]
        kept = copy.deepcopy(deeds)
        breath = again(STORE, RULE, deeds)
        self.assertEqual(deeds, kept)
        before = look(breath)
        deeds[0][1][0][0] = 9
        deeds[0][1].clear()
        deeds[2][1][0] = 9
        deeds.clear()
        self.assertEqual(look(breath), before)
        self.assertEqual(breath.tick(), ([0], [0], 8))

    def test_all_that_again_did_is_told(self):
        deeds = DeedsTest.wanted
        self.assertEqual(again(STORE, RULE, deeds).deeds(), deeds)
        self.assertEqual(again(STORE, RULE, tuple(deeds)).deeds(), deeds)


class BadDeedTest(unittest.TestCase):
    good = (("enter", (STEP, STEP)), ("tick",), ("pause", 0), ("go", 0), ("lend", 2), ("back", 1), ("merge", (1, 1, 1)))

    def assert_bad(self, deed):
        """It is refused at its number wherever it stands, and before another one."""
        for before in range(len(self.good) + 1):
            for behind in ([], [deed], [("none",)], [("tick",)]):
                deeds = list(self.good[:before]) + [deed] + behind
                for handed in (deeds, tuple(deeds)):
                    self.assertEqual(refusal(again, STORE, RULE, handed), bad_deed(before), handed)

    def test_a_word_that_is_none(self):
        for word in ("", "Tick", "tick ", "ticks", "none", "standing", "stock", "deeds", "run", "lent", "enters"):
            self.assert_bad((word,))
            self.assert_bad((word, 0))
            self.assert_bad((word, STEP))

    def test_another_count_of_things(self):
        self.assert_bad(())
        self.assert_bad(("tick", 0))
        self.assert_bad(("tick", 1, 2))
        things = {"enter": (STEP,), "pause": 0, "go": 0, "lend": 1, "back": 1, "merge": (1, 1, 1)}
        for word, handed in things.items():
            self.assert_bad((word,))
            self.assert_bad((word, handed, handed))

    def test_a_deed_that_is_refused(self):
        self.assert_bad(("enter", ((99, 1, 1),)))
        self.assert_bad(("enter", (STEP,) * 7))
        self.assert_bad(("enter", ((1, 1),)))
        for number in (-1, 1, 5):
            self.assert_bad(("pause", number))
            self.assert_bad(("go", number))
        self.assert_bad(("lend", 0))
        self.assert_bad(("lend", 99))
        self.assert_bad(("back", 0))
        self.assert_bad(("back", 3))
        self.assert_bad(("merge", (0, 0, 0)))
        self.assert_bad(("merge", (99, 0, 0)))
        self.assert_bad(("merge", (1, 0, 9)))
        self.assert_bad(("merge", (1, 0)))

    def test_refused_by_what_was_done_before(self):
        cases = (
            ([("pause", 0)], 0),
            ([("enter", (STEP,)), ("pause", 0), ("pause", 0)], 2),
            ([("enter", (STEP,)), ("go", 0)], 1),
            ([("enter", (STEP,)), ("pause", 0), ("go", 0), ("go", 0)], 3),
            ([("enter", (STEP,))] * 6, 5),
            ([("back", 1)], 0),
            ([("lend", 7), ("lend", 1)], 1),
            ([("lend", 7), ("back", 3), ("back", 5)], 2),
            ([("merge", (90, 0, 0)), ("merge", (1, 0, 0))], 1),
            ([("merge", (1, 0, 8)), ("merge", (1, 0, 1))], 1),
            ([("enter", ((10, 1, 0),)), ("merge", (1, 0, 0))], 0),
        )
        for deeds, number in cases:
            self.assertEqual(refusal(again, STORE, RULE, deeds), bad_deed(number), deeds)
            self.assertIsNone(refusal(again, STORE, RULE, deeds[:number]))

    def test_store_and_rule_ahead_of_deeds(self):
        for deeds in ([("none",)], [("pause", 0)], []):
            self.assertEqual(refusal(again, (9, 10, 1), ("first", True), deeds), ("BadStore", {}))
            self.assertEqual(refusal(again, STORE, ("first", True), deeds), ("BadRule", {}))


if __name__ == "__main__":
    unittest.main()
