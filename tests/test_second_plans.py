"""Promises 7, 8, 10 and 11 over many small worlds and stores, against the second models."""

import random
import unittest
from unittest import mock

from asking import RULES, refusal
from onebreath import plans
from onebreath.halls import Breath, again
from onebreath.plans import fewest, floors, judged
from slow_breath import Diary
from slow_plans import slow_fewest, slow_judged

MOST = 700


def some_steps(source, cap, most):
    steps = []
    for _ in range(source.randint(0, most)):
        draw = source.randint(0, cap)
        steps.append((draw, source.choice((1, 1, 2, 3, 5)), source.choice((0, draw, source.randint(0, draw)))))
    return tuple(steps)


def some_world(source):
    cap = source.choice((1, 2, 3, 5, 8))
    store = (cap, source.randint(0, cap), source.choice((0, 0, 1, 2)))
    return store, tuple([some_steps(source, cap, 3) for _ in range(source.choice((0, 1, 2, 2, 3, 3, 4)))])


class PlansTest(unittest.TestCase):
    def setUp(self):
        # The same seed each time: the worlds are many, but they are always these.
        self.source = random.Random(8)
        self.worlds = [some_world(self.source) for _ in range(260)]

    def test_judged(self):
        told = {"BadPlan": 0, "None": 0, "beat": 0}
        for world in self.worlds:
            for _ in range(6):
                plan = self.some_plan(world)
                wanted = slow_judged(world, plan)
                with self.subTest(world=world, plan=plan):
                    if isinstance(wanted, tuple):
                        self.assertEqual(refusal(judged, world, plan), ("BadPlan", {"beat": wanted[1]}))
                    else:
                        self.assertEqual(judged(world, plan), wanted)
                kind = "BadPlan" if isinstance(wanted, tuple) else "None" if wanted is None else "beat"
                told[kind] += 1
        self.assertGreater(min(told.values()), 100)

    def some_plan(self, world):
        """A plan that goes on well for a while, and then may not."""
        plan = []
        numbers = range(-1, len(world[1]) + 1)
        for _ in range(self.source.randint(0, 14)):
            row = sorted(self.source.sample(numbers, self.source.randint(0, min(3, len(numbers)))))
            good = slow_judged(world, plan + [row])
            if isinstance(good, tuple) and self.source.random() < 0.97:
                row = []
            plan.append(row)
        return plan

    def test_fewest(self):
        told = {"None": 0, "beat": 0}
        for world in self.worlds:
            wanted = slow_fewest(world, MOST)
            if wanted is None:
                continue
            beat, many = wanted
            with self.subTest(world=world):
                if many > 1:
                    with mock.patch.object(plans, "MOST_STATES", many - 1):
                        self.assertEqual(refusal(fewest, world), ("TooMany", {}))
                with mock.patch.object(plans, "MOST_STATES", many):
                    self.assert_fewest(world, beat)
            told["None" if beat is None else "beat"] += 1
        self.assertGreater(min(told.values()), 30)

    def assert_fewest(self, world, beat):
        told = fewest(world)
        if beat is None:
            self.assertIsNone(told)
            return
        self.assertEqual(told[0], beat)
        self.assertEqual(len(told[1]), beat)
        self.assertEqual(slow_judged(world, told[1]), beat)
        self.assertEqual(judged(world, told[1]), beat)
        longest, enough = floors(world)
        self.assertIsNotNone(enough)
        self.assertGreaterEqual(beat, max(longest, enough))


class BreathTest(unittest.TestCase):
    def test_deeds_done_and_refused(self):
        source = random.Random(10)
        refused = {}
        for at in range(120):
            store = (source.choice((1, 3, 6, 9, 60)), 0, source.randint(0, 4))
            store = (store[0], source.randint(0, store[0]), store[2])
            rule = RULES[at % len(RULES)]
            breath, diary = Breath(store, rule), Diary(store, rule)
            for _ in range(40):
                deed = self.some_deed(source, diary)
                told, wrong = diary.do(deed)
                with self.subTest(store=store, rule=rule, deeds=diary.lines, deed=deed):
                    self.assert_same(breath, diary, deed, told, wrong)
                if wrong is not None:
                    refused[wrong[0]] = refused.get(wrong[0], 0) + 1
            self.assert_again(store, rule, breath, source)
        self.assertGreater(min([refused[name] for name in ("BadStep", "BadStore", "BadCount", "NoMachine")]), 30)

    def assert_same(self, breath, diary, deed, told, wrong):
        method = getattr(breath, deed[0])
        if wrong is None:
            self.assertEqual(method(*deed[1:]), told)
        else:
            self.assertEqual(refusal(method, *deed[1:]), wrong)
        self.assertEqual(breath.standing(), diary.standing())
        self.assertEqual(breath.stock(), diary.stock())
        self.assertEqual(breath.deeds(), diary.lines)

    def assert_again(self, store, rule, breath, source):
        deeds = breath.deeds()
        other = again(store, rule, deeds)
        for _ in range(5):
            self.assertEqual(other.standing(), breath.standing())
            self.assertEqual(other.stock(), breath.stock())
            self.assertEqual(other.deeds(), breath.deeds())
            self.assertEqual(other.tick(), breath.tick())
        place = source.randint(0, len(deeds))
        wrong = source.choice((("tick", 1), ("turn",), ("pause", -1), ("lend", 0), ("merge", (0, 0, 0))))
        deeds.insert(place, wrong)
        self.assertEqual(refusal(again, store, rule, deeds), ("BadDeed", {"number": place}))

    def some_deed(self, source, diary):
        cap, here, _, lent = diary.stock()
        many = len(diary.standing())
        word = source.choice(("enter", "tick", "tick", "tick", "tick", "pause", "go", "lend", "back", "merge"))
        if word == "tick":
            return (word,)
        if word == "enter":
            return (word, some_steps(source, cap + source.choice((0, 0, 0, 2)), 7 if source.random() < 0.1 else 3))
        if word in ("pause", "go"):
            return (word, source.randint(-1, max(many, 1)))
        if word == "lend":
            return (word, source.choice((0, 1, here, here + 1, source.randint(-1, here + 1))))
        if word == "back":
            return (word, source.choice((0, 1, lent, lent + 1, source.randint(-1, lent + 1))))
        more = source.choice((0, 1, 1, 2, 30))
        return (word, (more, source.randint(0, more + source.choice((0, 0, 1))), source.choice((0, 0, 1, 10))))


if __name__ == "__main__":
    unittest.main()
