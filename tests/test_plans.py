"""Point [12]: what a plan is, and rows that are made by plans."""

import random
import unittest

from drawnworks.ends import everything
from drawnworks.errors import BadCount, BadPlan, BadText, DrawError, Halt, NoMore, NoWork, Over, Tired
from drawnworks.notes import written
from drawnworks.plans import made, shorter
from drawnworks.rows import counted, listed
from tests import models
from tests.helping import OVER, Noting, RowCase, Script, come_of, outcome, refusals, shown
from tests.planning import BAD, GOOD, NAMES, Making, by_chance

KINDS = (Over, Halt, Tired, NoMore, BadCount, BadPlan, NoWork, BadText)
HALT = Halt("tea")


def is_odd(x):
    return x % 2 == 1


class PlanCase(RowCase):
    def check_refusal(self, error, kind, value, wanted):
        """The error is of this kind and of none of the others, and has its value."""
        self.assertIs(type(error), kind)
        self.assertEqual(getattr(error, value), wanted)
        for other in KINDS:
            self.assertEqual(isinstance(error, other), other is kind)
        for above in (kind, DrawError, ValueError):
            with self.assertRaises(above):
                raise error


class BadPlans(PlanCase):
    def check_at(self, plan, at):
        before = list(plan)
        row = Script(1, 2)
        for refusing in (lambda plan: made(plan, row, {}), shorter, written):
            self.check_refusal(come_of(refusing, plan), BadPlan, "at", at)
        self.assertEqual((plan, row.draws), (before, 0))

    def check_good(self, plan):
        works = {name: str for name in NAMES}
        for taking in (lambda plan: made(plan, listed([]), works), shorter, written):
            self.assertNotIsInstance(come_of(taking, plan), Exception, plan)

    def test_good_steps(self):
        for step in GOOD:
            self.check_good([step])

    def test_bad_steps(self):
        for step in BAD:
            self.check_at([step], 0)

    def test_every_number(self):
        for word, low in (("take", 0), ("skip", 0), ("number", 0), ("parcel", 1), ("window", 1)):
            for n in range(-3, 104):
                if low <= n <= 99:
                    self.check_good([(word, n)])
                else:
                    self.check_at([(word, n)], 0)

    def test_every_letter(self):
        for code in list(range(300)) + [0x430, 0xff41, 0x1d41a]:
            step = ("map", "a" + chr(code))
            row = listed([])
            found = come_of(lambda plan: made(plan, row, {"a" + chr(code): str}), [step])
            self.assertEqual(isinstance(found, BadPlan), not 97 <= code <= 122, code)

    def test_names_of_each_length(self):
        for size in range(10):
            if 1 <= size <= 6:
                works = {"q" * size: lambda x: x + 1}
                self.check(made([("map", "q" * size)], listed([1]), works), [2])
            else:
                self.check_at([("map", "q" * size)], 0)

    def test_the_first_that_is_none(self):
        for step in BAD[::7]:
            self.check_at([("once",), step], 1)
            self.check_at([("once",), ("take", 3), step, ("take", 4)], 2)
            self.check_at([("take", 3), step, ("once",), step, ()], 1)

    def test_true_and_false_are_no_numbers(self):
        for word in ("take", "skip", "number", "parcel", "window"):
            for n in (True, False):
                self.check_at([("once",), (word, n)], 1)

    def test_forty_and_forty_one_steps(self):
        for step in GOOD:
            self.check_good([step] * 40)
            self.check_at([step] * 41, 40)
        self.check_at([("once",)] * 60, 40)

    def test_forty_one_steps_with_bad_ones(self):
        for at in (0, 1, 17, 38, 39):
            plan = [("number", 3)] * 41
            plan[at] = ("number", 100)
            self.check_at(plan, at)
            plan[40] = ()
            self.check_at(plan, at)
        self.check_at([("once",)] * 40 + [()], 40)
        self.check_at([("once",)] * 41 + [()], 40)
        self.check_at([("once",)] * 39 + [()], 39)


class Made(PlanCase):
    def tells(self, plan, items, wanted):
        works = {"a": lambda x: x * 10, "odd": is_odd, "small": lambda x: x < 4}
        self.check(made(plan, listed(items), works), wanted)

    def test_no_steps(self):
        self.tells([], [1, None, 2], [1, None, 2])
        self.tells([], [], [])
        item = [1]
        self.assertIs(made([], listed([item]), {}).draw(), item)
        for no in refusals():
            row = Script(1, no, 2)
            self.check(made([], row, {}), [1, no, 2])
            self.assertEqual(row.draws, 4)

    def test_one_of_each(self):
        items = [1, 3, 2, 3, 5, 1]
        self.tells([("map", "a")], items, [10, 30, 20, 30, 50, 10])
        self.tells([("keep", "odd")], items, [1, 3, 3, 5, 1])
        self.tells([("until", "small")], items, [1, 3, 2, 3])
        self.tells([("past", "small")], items, [5, 1])
        self.tells([("take", 2)], items, [1, 3])
        self.tells([("take", 0)], items, [])
        self.tells([("take", 99)], items, items)
        self.tells([("skip", 4)], items, [5, 1])
        self.tells([("skip", 0)], items, items)
        self.tells([("number", 7)], [5, 6], [(7, 5), (8, 6)])
        self.tells([("number", 0)], [5, 6], [(0, 5), (1, 6)])
        self.tells([("number", 99)], [5, 6], [(99, 5), (100, 6)])
        self.tells([("parcel", 4)], items, [[1, 3, 2, 3], [5, 1]])
        self.tells([("window", 5)], items, [[1, 3, 2, 3, 5], [3, 2, 3, 5, 1]])
        self.tells([("once",)], items, [1, 3, 2, 5])

    def test_once_by_the_items_themselves(self):
        self.tells([("parcel", 2), ("once",)], [1, 2, 1, 2, 3], [[1, 2], [3]])

    def test_the_first_step_is_innermost(self):
        items = [1, 2, 3, 4, 5]
        self.tells([("take", 3), ("keep", "odd")], items, [1, 3])
        self.tells([("keep", "odd"), ("take", 3)], items, [1, 3, 5])
        self.tells([("skip", 1), ("number", 5)], items, [(5, 2), (6, 3), (7, 4), (8, 5)])
        self.tells([("number", 5), ("skip", 1)], items, [(6, 2), (7, 3), (8, 4), (9, 5)])
        self.tells([("window", 2), ("parcel", 3)], items, [[[1, 2], [2, 3], [3, 4]], [[4, 5]]])
        self.tells([("parcel", 3), ("window", 2)], items, [[[1, 2, 3], [4, 5]]])
        self.tells([("map", "a"), ("until", "small")], items, [])
        self.tells([("until", "small"), ("map", "a")], items, [10, 20, 30])

    def test_many_around_one_another(self):
        plan = [("skip", 1), ("keep", "odd"), ("map", "a"), ("once",), ("number", 3), ("parcel", 2), ("take", 1)]
        self.tells(plan, [1, 2, 3, 3, 5, 7, 9], [[(3, 30), (4, 50)]])

    def test_one_work_by_several_steps(self):
        work = Noting(lambda x: x + 1)
        self.check(made([("map", "a"), ("map", "a")], listed([1]), {"a": work}), [3])
        self.assertEqual(work.calls, [(1,), (2,)])

    def test_forty_steps(self):
        self.check(made([("map", "a")] * 40, listed([1, 2]), {"a": lambda x: x + 1}), [41, 42])

    def test_nothing_is_drawn_or_called_when_it_is_made(self):
        row, work = Script(1, 2, 3), Noting(lambda x: True)
        works = {name: work for name in NAMES}
        for step in GOOD:
            made([step], row, works)
        made(GOOD[:20] + GOOD[-20:], row, works)
        self.assertEqual((row.draws, work.calls), (0, []))

    def test_which_work_is_called_with_what_and_when(self):
        log = []
        row = Script(1, 2, 3, log=log)
        works = {"a": Noting(lambda x: x * 10, log=log), "k": Noting(lambda x: x > 10, {1: HALT}, log=log)}
        row = made([("map", "a"), ("keep", "k"), ("take", 1)], row, works)
        self.assertEqual(log, [])
        self.check(row, [HALT, 30])
        self.assertEqual(log, ["draw", (1,), (10,), "draw", (2,), (20,), "draw", (3,), (30,)])

    def test_the_plan_and_the_works_stay_and_may_be_changed_later(self):
        plan = [("map", "a"), ("take", 2)]
        works = {"a": lambda x: -x, "b": str}
        before = dict(works)
        row = made(plan, counted(1), works)
        self.assertEqual((plan, works), ([("map", "a"), ("take", 2)], before))
        works["a"] = str
        plan[1:] = [("take", 9)]
        self.assertEqual(row.draw(), -1)
        works.clear()
        plan.clear()
        self.check(row, [-2])

    def test_against_models(self):
        for seed in range(1500):
            plan = by_chance(random.Random(seed), 6, 3)
            true, model = Making(seed), Making(seed)
            row = made(plan, Script(*true.events, log=true.log), true.works)
            model_row = of_plan(plan, models.of_script(model.events, model.log, "draw"), model.works)
            for _ in range(20):
                come = next(model_row)
                wanted = OVER if come == models.ENDED else come[1]
                found = outcome(row)
                self.assertEqual(shown(found), shown(wanted), (seed, plan))
                self.assertEqual(true.log, model.log, (seed, plan))


MODELS = {"map": models.of_mapped, "keep": models.of_kept, "until": models.of_until, "past": models.of_past,
          "take": models.of_taken, "skip": models.of_skipped, "number": models.of_numbered,
          "parcel": models.of_parcels, "window": models.of_windows}


def of_plan(plan, row, works):
    for word, *rest in plan:
        if word == "once":
            row = models.of_once(row, lambda x: x)
        else:
            row = MODELS[word](row, works.get(rest[0], rest[0]))
    return row


class NoWorks(PlanCase):
    def check_name(self, plan, works, name):
        row, before = Script(1), list(plan)
        self.check_refusal(come_of(lambda plan: made(plan, row, works), plan), NoWork, "name", name)
        self.assertEqual((plan, row.draws), (before, 0))

    def test_each_word(self):
        for word in ("map", "keep", "until", "past"):
            for name in NAMES:
                self.check_name([(word, name)], {}, name)
                self.check_name([(word, name)], {"b": str, name + "x": str, word: str}, name)

    def test_the_first_one_that_is_not_there(self):
        works = {"a": str, "b": str}
        self.check_name([("map", "a"), ("keep", "x"), ("map", "b"), ("past", "y")], works, "x")
        self.check_name([("once",), ("take", 3), ("map", "a"), ("until", "y"), ("keep", "x")], works, "y")
        self.check_name([("map", "b")] * 39 + [("map", "c")], works, "c")

    def test_behind_bad_plan(self):
        for plan, at in (([("map", "x"), ()], 1), ([("map", "x")] * 41, 40), ([("take", 100), ("map", "x")], 0)):
            self.check_refusal(come_of(lambda plan: made(plan, Script(), {}), plan), BadPlan, "at", at)

    def test_no_work_is_needed_where_none_is_named(self):
        plan = [("take", 5), ("skip", 1), ("number", 2), ("parcel", 2), ("window", 1), ("once",)]
        self.assertEqual(everything(made(plan, counted(0), {})), [[[(2, 1), (3, 2)]], [[(4, 3), (5, 4)]]])

    def test_shorter_and_written_ask_for_no_works(self):
        self.assertEqual(shorter([("map", "x")]), [("map", "x")])
        self.assertEqual(written([("map", "x")]), "map x")


if __name__ == "__main__":
    unittest.main()
