"""Point [13]: plans that are made shorter, with just the same calls."""

import itertools
import random
import unittest

from drawnworks.errors import Halt
from drawnworks.plans import made, shorter
from tests.helping import OVER, Script, outcome, shown
from tests.planning import GOOD, Making, by_chance

ONE_OF_EACH = [("map", "a"), ("keep", "a"), ("until", "a"), ("past", "a"), ("take", 5), ("skip", 5), ("number", 5),
               ("parcel", 5), ("window", 5), ("once",)]

# The rules in the document's order, each for the words of two neighbours, None being any.
RULES = [
    (None, "skip", lambda one, n: [one] if n == 0 else None),
    ("take", "take", lambda m, n: [("take", m if m < n else n)]),
    ("take", None, lambda m, other: [("take", 0)] if m == 0 else None),
    ("skip", "skip", lambda m, n: [("skip", m + n)] if m + n < 100 else None),
    ("take", "skip", lambda m, n: [("skip", n), ("take", m - n)] if n < m else None),
    ("once", "once", lambda one, other: [("once",)]),
    ("number", "take", lambda m, n: [("take", n), ("number", m)]),
    ("number", "skip", lambda m, n: [("skip", n), ("number", m + n)] if m + n < 100 else None),
]


def model_of_two(one, other):
    for word, other_word, rule in RULES:
        if word in (None, one[0]) and other_word in (None, other[0]):
            left = one if word is None else one[-1]
            right = other if other_word is None else other[-1]
            if rule(left, right) is not None:
                return rule(left, right)
    return None


def model_of_one_use(plan):
    if plan[:1] == [("skip", 0)]:
        return plan[1:]
    for at, (one, other) in enumerate(itertools.pairwise(plan)):
        joined = model_of_two(one, other)
        if joined is not None:
            return plan[:at] + joined + plan[at + 2:]
    return plan


def model_of_shorter(plan):
    """By the document's words, a rule each time from the first place on.

    No rule leaves a plan as it is, so that nothing fits once it stays."""
    while model_of_one_use(plan) != plan:
        plan = model_of_one_use(plan)
    return plan


class ShorterCase(unittest.TestCase):
    def check(self, plan, wanted):
        before = list(plan)
        found = shorter(plan)
        self.assertEqual(found, wanted)
        self.assertEqual(plan, before)
        self.assertIs(type(found), list)
        self.assertIsNot(found, plan)
        self.assertEqual(shorter(found), found)

    def stays(self, *plan):
        self.check(list(plan), list(plan))


class EachRule(ShorterCase):
    def test_none_fits(self):
        self.stays()
        for step in GOOD:
            if step != ("skip", 0):
                self.stays(step)
        self.stays(("map", "a"), ("map", "a"))
        self.stays(("keep", "a"), ("keep", "a"))
        self.stays(("parcel", 1), ("parcel", 1))
        self.stays(("number", 1), ("number", 1))
        self.stays(*ONE_OF_EACH[:7])

    def test_skip_nought_goes(self):
        self.check([("skip", 0)], [])
        self.check([("skip", 0)] * 3, [])
        for step in ONE_OF_EACH:
            self.check([("skip", 0), step], [step])
            self.check([step, ("skip", 0)], [step])
            self.check([("skip", 0), step, ("skip", 0), ("skip", 0)], [step])
            self.check([("map", "a"), ("skip", 0), step], shorter([("map", "a"), step]))
        self.stays(("map", "a"), ("skip", 1))
        self.stays(("skip", 1), ("map", "a"))

    def test_takes(self):
        for m, n in itertools.product((0, 1, 5, 98, 99), repeat=2):
            self.check([("take", m), ("take", n)], [("take", min(m, n))])
        self.check([("take", 5), ("take", 3), ("take", 4)], [("take", 3)])

    def test_take_nought_ahead_of_each_kind(self):
        for step in GOOD:
            self.check([("take", 0), step], [("take", 0)])
            self.check([("map", "a"), ("take", 0), step], [("map", "a"), ("take", 0)])
        self.check([("take", 0)] + ONE_OF_EACH, [("take", 0)])
        self.stays(("map", "a"), ("take", 0))
        self.stays(("once",), ("take", 0))
        self.stays(("take", 1), ("map", "a"))

    def test_skips(self):
        for m, n in ((1, 1), (1, 98), (98, 1), (50, 49), (49, 50), (3, 4)):
            self.check([("skip", m), ("skip", n)], [("skip", m + n)])
        for m, n in ((1, 99), (99, 1), (50, 50), (99, 99)):
            self.stays(("skip", m), ("skip", n))
        self.check([("skip", 99), ("skip", 0)], [("skip", 99)])
        self.check([("skip", 0), ("skip", 99)], [("skip", 99)])

    def test_take_and_skip(self):
        for m, n in itertools.product((1, 2, 5, 98, 99), repeat=2):
            if n < m:
                self.check([("take", m), ("skip", n)], [("skip", n), ("take", m - n)])
            else:
                self.stays(("take", m), ("skip", n))
        self.check([("take", 5), ("skip", 0)], [("take", 5)])
        self.check([("take", 0), ("skip", 3)], [("take", 0)])
        self.stays(("skip", 2), ("take", 5))

    def test_once_and_once(self):
        self.check([("once",), ("once",)], [("once",)])
        self.check([("once",)] * 5, [("once",)])
        self.stays(("once",), ("map", "a"), ("once",))

    def test_number_and_take(self):
        for m, n in itertools.product((0, 5, 99), (1, 7, 99)):
            self.check([("number", m), ("take", n)], [("take", n), ("number", m)])
            self.stays(("take", n), ("number", m))
        self.check([("number", 5), ("take", 0)], [("take", 0)])

    def test_number_and_skip(self):
        for m, n in ((0, 1), (0, 99), (1, 98), (98, 1), (50, 49)):
            self.check([("number", m), ("skip", n)], [("skip", n), ("number", m + n)])
        for m, n in ((1, 99), (99, 1), (50, 50), (99, 99)):
            self.stays(("number", m), ("skip", n))
        self.check([("number", 99), ("skip", 0)], [("number", 99)])
        self.stays(("skip", 5), ("number", 5))


class ManyRules(ShorterCase):
    def test_the_first_place(self):
        self.check([("skip", 60), ("skip", 30), ("skip", 30)], [("skip", 90), ("skip", 30)])
        self.check([("number", 60), ("skip", 30), ("skip", 30)], [("skip", 30), ("number", 90), ("skip", 30)])
        self.check([("map", "a"), ("skip", 60), ("skip", 39), ("skip", 1)],
                   [("map", "a"), ("skip", 99), ("skip", 1)])

    def test_the_first_place_anew_each_time(self):
        self.check([("skip", 50), ("number", 0), ("skip", 20), ("skip", 40)],
                   [("skip", 70), ("skip", 40), ("number", 60)])

    def test_several_rules_at_one_place(self):
        self.check([("take", 5), ("skip", 0), ("skip", 2)], [("skip", 2), ("take", 3)])
        self.check([("once",), ("take", 0), ("take", 5), ("skip", 0)], [("once",), ("take", 0)])
        self.check([("skip", 0), ("skip", 0), ("skip", 3)], [("skip", 3)])

    def test_again_and_again(self):
        self.check([("number", 1), ("take", 9), ("number", 2), ("skip", 3), ("take", 4)],
                   [("skip", 3), ("take", 4), ("number", 4), ("number", 5)])
        self.check([("map", "a"), ("number", 0), ("skip", 2), ("take", 0), ("map", "b"), ("once",)],
                   [("map", "a"), ("skip", 2), ("take", 0)])
        self.check([("once",), ("skip", 0), ("once",)], [("once",)])

    def test_plans_of_forty_steps(self):
        self.check([("skip", 0)] * 40, [])
        self.check([("skip", 2)] * 40, [("skip", 80)])
        self.check([("skip", 3)] * 40, [("skip", 99), ("skip", 21)])
        self.check([("take", 99 - at) for at in range(40)], [("take", 60)])
        self.check([("number", 0), ("skip", 1)] * 20, [("skip", 20)] + [("number", 20 - at) for at in range(20)])
        self.check([("number", 1)] * 20 + [("take", 50)] * 20, [("take", 50)] + [("number", 1)] * 20)
        self.check([("number", 0)] * 20 + [("skip", 1)] * 20, [("skip", 20)] + [("number", 20)] * 20)

    def test_the_told_list_may_be_changed(self):
        plan = [("map", "a"), ("take", 3)]
        told = shorter(plan)
        told.clear()
        self.assertEqual(plan, [("map", "a"), ("take", 3)])
        self.assertEqual(shorter(plan), plan)

    def test_all_short_plans_against_the_model(self):
        steps = [("map", "a"), ("once",), ("take", 0), ("take", 2), ("take", 60), ("skip", 0), ("skip", 1),
                 ("skip", 50), ("number", 0), ("number", 50), ("parcel", 1)]
        for size in range(5):
            for plan in itertools.product(steps, repeat=size):
                self.assertEqual(shorter(list(plan)), model_of_shorter(list(plan)), plan)

    def test_long_plans_against_the_model(self):
        for seed in range(1500):
            chance = random.Random(seed)
            plan = by_chance(chance, 40, chance.choice([3, 30, 60, 99]))
            self.check(plan, model_of_shorter(plan))


class TheSameCalls(unittest.TestCase):
    """Rows made of a plan and of the shorter one, with items and works that halt now and then."""

    def check(self, plan, seed):
        told = shorter(plan)
        one, other = Making(seed), Making(seed)
        row = made(plan, Script(*one.events, log=one.log), one.works)
        short = made(told, Script(*other.events, log=other.log), other.works)
        for _ in range(18):
            self.assertEqual(shown(outcome(row)), shown(outcome(short)), (seed, plan, told))
            self.assertEqual(one.log, other.log, (seed, plan, told))

    def test_plans_by_chance(self):
        for seed in range(3000):
            self.check(by_chance(random.Random(seed), 7, seed % 4 + 1), seed)

    def test_two_neighbours(self):
        steps = [step for step in ONE_OF_EACH[4:] if step[0] not in ("take", "skip", "number")] + [("map", "a")]
        steps += [(word, n) for word in ("take", "skip", "number") for n in range(4)]
        for seed, plan in enumerate(itertools.product(steps, repeat=2)):
            for more in range(8):
                self.check(list(plan), seed * 8 + more)

    def test_great_numbers(self):
        for plan in ([("skip", 50), ("skip", 49)], [("number", 50), ("skip", 49)], [("take", 99), ("skip", 98)],
                     [("number", 99), ("take", 99)], [("take", 50), ("skip", 50)], [("skip", 50), ("skip", 50)]):
            events = [Halt(n) if n % 7 == 3 else n for n in range(130)]
            one, other = Script(*events), Script(*events)
            row, short = made(plan, one, {}), made(shorter(plan), other, {})
            for _ in range(150):
                self.assertEqual(shown(outcome(row)), shown(outcome(short)))
                self.assertEqual(one.draws, other.draws)

    def test_no_steps_and_a_step_that_goes_are_over_alike(self):
        one, other = Script(1), Script(1)
        row, short = made([("skip", 0)], one, {}), made([], other, {})
        for come_to, draws in ((1, 1), (OVER, 2), (OVER, 2), (OVER, 2)):
            self.assertEqual((outcome(row), one.draws), (come_to, draws))
            self.assertEqual((outcome(short), other.draws), (come_to, draws))


if __name__ == "__main__":
    unittest.main()
