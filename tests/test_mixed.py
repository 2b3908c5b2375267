"""Rows of all modules around one another, several deep, with refusals in between."""

import random
import unittest

from drawnworks import ends, several, sharing, stages, trying
from drawnworks.ends import columns, count, everything, first, fold, least, tally
from drawnworks.errors import Halt, NoMore, Over, Tired
from drawnworks.notes import read
from drawnworks.plans import made
from drawnworks.rows import asked, counted, listed
from drawnworks.several import chained, in_turn, merged, pairs
from drawnworks.sharing import Memory, split
from drawnworks.stages import kept, mapped, parcels, skipped, taken
from drawnworks.trying import again, instead, limited, watched
from tests import models
from tests.helping import OVER, Noting, RowCase, Script, outcome, outcomes, shown

HALT = Halt("tea")


def signs(*things):
    """A small number that any things come to."""
    return sum(map(ord, repr(things)))


def is_so(x):
    return signs(x) % 3 != 0


def two_replays(row):
    memory = Memory(row)
    return [memory.replay(), memory.replay()]


# Each is made of one row by a work and a number, of two rows, or of two that one row was shared into.
OF_ONE = {
    "mapped": lambda kit, row, work, n: kit["mapped"](row, work(lambda x: signs(x) % 9)),
    "kept": lambda kit, row, work, n: kit["kept"](row, work(is_so)),
    "taken": lambda kit, row, work, n: kit["taken"](row, n + 3),
    "skipped": lambda kit, row, work, n: kit["skipped"](row, n),
    "until": lambda kit, row, work, n: kit["until"](row, work(is_so)),
    "past": lambda kit, row, work, n: kit["past"](row, work(is_so)),
    "numbered": lambda kit, row, work, n: kit["numbered"](row, n),
    "parcels": lambda kit, row, work, n: kit["parcels"](row, n + 1),
    "windows": lambda kit, row, work, n: kit["windows"](row, n + 1),
    "scanned": lambda kit, row, work, n: kit["scanned"](row, work(lambda last, x: signs(last, x) % 9), n),
    "once": lambda kit, row, work, n: kit["once"](row, work(lambda x: signs(x) % 7)),
    "runs": lambda kit, row, work, n: kit["runs"](row, work(lambda x: signs(x) % 2)),
    "watched": lambda kit, row, work, n: kit["watched"](row, work(lambda word, x: None)),
    "again": lambda kit, row, work, n: kit["again"](row, n),
    "limited": lambda kit, row, work, n: kit["limited"](row, n * 5),
}
OF_TWO = {
    "pairs": lambda kit, one, other, work: kit["pairs"](one, other),
    "chained": lambda kit, one, other, work: kit["chained"]([one, other]),
    "in_turn": lambda kit, one, other, work: kit["in_turn"]([one, other]),
    "merged": lambda kit, one, other, work: kit["merged"](one, other, work(lambda x: signs(x) % 5)),
    "instead": lambda kit, one, other, work: kit["instead"](one, other),
}
PLANS = [[("keep", "work"), ("number", 3), ("take", 4)],
         [("past", "work"), ("window", 2), ("skip", 1), ("once",)],
         [("until", "work"), ("parcel", 2), ("map", "work")]]


def by_plan(row, work, n):
    return made(PLANS[n], row, {"work": work(is_so), "none": None})


def model_by_plan(row, work, n):
    test = work(is_so)
    if n == 0:
        return models.of_taken(models.of_numbered(models.of_kept(row, test), 3), 4)
    if n == 1:
        return models.of_once(models.of_skipped(models.of_windows(models.of_past(row, test), 2), 1), lambda x: x)
    return models.of_mapped(models.of_parcels(models.of_until(row, test), 2), test)


OF_ONE["made"] = lambda kit, row, work, n: kit["made"](row, work, n)
SHARED = {
    "split": lambda kit, row: kit["split"](row, 2),
    "memory": lambda kit, row: kit["memory"](row),
}
NAMES = [name for name in list(OF_ONE) + list(OF_TWO)]
MODULES = {"mapped": stages, "kept": stages, "taken": stages, "skipped": stages, "until": stages, "past": stages,
           "numbered": stages, "parcels": stages, "windows": stages, "scanned": stages, "once": stages, "runs": stages,
           "watched": trying, "again": trying, "limited": trying, "instead": trying, "split": sharing,
           "pairs": several, "chained": several, "in_turn": several, "merged": several}
TRUE_KIT = {name: getattr(module, name) for name, module in MODULES.items()} | {"memory": two_replays}
MODEL_KIT = {name: getattr(models, "of_" + name) for name in TRUE_KIT} | {"made": model_by_plan}
TRUE_KIT["made"] = by_plan
ENDS = {
    "fold": lambda end, row, work, n: end(row, work(lambda so_far, x: signs(so_far, x) % 9), n),
    "everything": lambda end, row, work, n: end(row),
    "each": lambda end, row, work, n: end(row, work(is_so)),
    "count": lambda end, row, work, n: end(row),
    "first": lambda end, row, work, n: end(row, work(is_so), n),
    "any_so": lambda end, row, work, n: end(row, work(lambda x: not is_so(x))),
    "all_so": lambda end, row, work, n: end(row, work(is_so)),
    "least": lambda end, row, work, n: end(row, work(lambda x: signs(x) % 5)),
    "tally": lambda end, row, work, n: end(row, work(lambda x: [signs(x) % 3, "a"])),
    "parted": lambda end, row, work, n: end(row, work(is_so)),
}


class Builder:
    """Makes rows, or models of rows, by chance: the same ones of the same seed."""

    def __init__(self, kit, seed):
        self.kit = kit
        self.chance = random.Random(seed)
        self.log = []
        self.many = 0

    def next_name(self):
        self.many += 1
        return f"#{self.many}"

    def refusal(self):
        return self.chance.choice([Halt(self.next_name()), Halt(self.next_name()), KeyError(self.next_name())])

    def script(self):
        events = [self.refusal() if self.chance.random() < 0.25 else self.chance.randrange(4)
                  for _ in range(self.chance.randrange(9))]
        name = self.next_name()
        if self.kit is MODEL_KIT:
            return models.of_script(events, self.log, name)
        return Script(*events, log=self.log, name=name)

    def work(self, work):
        name = self.next_name()
        refusals = {call: self.refusal() for call in range(9) if self.chance.random() < 0.15}
        calls = []

        def noting(*things):
            self.log.append((name,) + things)
            calls.append(things)
            if len(calls) in refusals:
                raise refusals[len(calls)]
            return work(*things)
        return noting

    def note(self, work):
        name = self.next_name()
        return lambda word, x: self.log.append((name, word, x))

    def row(self, deep):
        if deep == 0:
            return self.script()
        name = self.chance.choice(NAMES)
        if name in OF_ONE:
            work = self.note if name == "watched" else self.work
            return OF_ONE[name](self.kit, self.row(deep - 1), work, self.chance.randrange(3))
        if self.chance.random() < 0.4:
            one, other = SHARED[self.chance.choice(list(SHARED))](self.kit, self.row(deep - 1))
            one = OF_ONE["mapped"](self.kit, one, self.work, 0)
        else:
            one, other = self.row(deep - 1), self.row(deep - 1)
        return OF_TWO[name](self.kit, one, other, self.work)

    def end(self, row):
        """What an end of the row comes to, with the end's name."""
        name = self.chance.choice(list(ENDS))
        end = getattr(models, "end_" + name) if self.kit is MODEL_KIT else getattr(ends, name)
        n = self.chance.randrange(5)
        try:
            return name, ENDS[name](end, row, self.work, n)
        except models.Refusal as refusal:
            return name, without_words(refusal.args[0])
        except Exception as error:
            return name, without_words(error)


def without_words(error):
    return shown(OVER if isinstance(error, Over) else error)


class AgainstModels(unittest.TestCase):
    def test_all_sorts_of_rows(self):
        for seed in range(4000):
            true, model = Builder(TRUE_KIT, seed), Builder(MODEL_KIT, seed)
            deep = seed % 5 + 1
            row, row_of_model = true.row(deep), model.row(deep)
            self.assertEqual(true.log, [])
            for _ in range(25):
                come = next(row_of_model)
                wanted = OVER if come == models.ENDED else come[1]
                self.assertEqual(shown(outcome(row)), shown(wanted), seed)
                self.assertEqual(true.log, model.log, seed)


    def test_ends_at_the_outside_of_all_sorts_of_rows(self):
        for seed in range(4000):
            true, model = Builder(TRUE_KIT, seed), Builder(MODEL_KIT, seed)
            row, row_of_model = true.row(seed % 5 + 1), model.row(seed % 5 + 1)
            # A Tired row refuses for ever, so that a few ends are drawn and no more.
            for _ in range(6):
                self.assertEqual(true.end(row), model.end(row_of_model), seed)
                self.assertEqual(true.log, model.log, seed)


class EndsByHand(RowCase):
    def test_over_rows_of_all_modules(self):
        letters = mapped(listed(["fig", "pear", "fig", "plum"]), lambda x: [x, str(len(x))])
        one, other = split(letters)
        self.assertEqual(columns(one, "l0", ": "), "fig : 3\npear: 4\nfig : 3\nplum: 4")
        self.assertEqual(tally(other, lambda x: x[0]), [("fig", 2), ("pear", 1), ("plum", 1)])

    def test_refused_in_between_and_tried_again(self):
        work = Noting(lambda x: x * 10, {1: HALT, 2: HALT, 4: HALT})
        row = again(mapped(counted(1, 1, 8), work), 1)
        with self.assertRaises(NoMore):
            everything(row)
        self.assertEqual(everything(row), [40, 60, 70, 80])

    def test_a_memory_under_several_ends(self):
        script = Script(4, 2, HALT, 9, 2)
        memory = Memory(script)
        with self.assertRaises(Halt):
            count(memory.replay())
        self.assertEqual(memory.drawn(), 2)
        self.assertEqual(least(memory.replay()), 2)
        self.assertEqual(fold(memory.replay(), lambda so_far, x: so_far + x), 17)
        self.assertEqual(first(memory.replay(), lambda x: x > 4), 9)
        self.assertEqual(script.draws, 6)

    def test_a_plan_that_is_read_and_made_over_rows_that_refuse(self):
        plan = read("keep even\nnumber 5\nparcel 2\ntake 2")
        script = Script(1, 2, HALT, 4, 6, 8, 10)
        row = instead(made(plan, script, {"even": lambda x: x % 2 == 0}), listed(["gone on"]))
        self.assertEqual(everything(row), ["gone on"])
        script = Script(1, 2, HALT, 4, 6, 8, 10)
        row = again(made(plan, script, {"even": lambda x: x % 2 == 0}))
        self.assertEqual(everything(row), [[(5, 2), (6, 4)], [(7, 6), (8, 8)]])
        self.assertEqual(script.draws, 6)

    def test_tired_rows(self):
        row = chained([taken(counted(1), 2), limited(counted(5), 2)])
        for _ in range(3):
            with self.assertRaises(Tired):
                everything(row)

    def test_watched_under_an_end_that_stops_early(self):
        note = Noting(lambda word, x: None)
        row = watched(merged(listed([1, 4]), listed([2, 3]), lambda x: x), note)
        self.assertEqual(first(row, lambda x: x > 1), 2)
        self.assertEqual(note.calls, [("ask", None), ("item", 1), ("ask", None), ("item", 2)])
        self.assertEqual(count(row), 2)
        self.assertEqual(note.calls[4:], [("ask", None), ("item", 3), ("ask", None), ("item", 4), ("ask", None),
                                          ("over", None)])


class ByHand(RowCase):
    def test_tries_around_a_pair(self):
        log = []
        one = mapped(counted(1), Noting(lambda x: x, {1: HALT}, log=log))
        other = mapped(counted(10), Noting(lambda x: x, {0: HALT}, log=log))
        row = again(pairs(one, other), 2)
        self.assertEqual(row.draw(), (3, 11))
        self.assertEqual(log, [(1,), (10,), (2,), (3,), (11,)])

    def test_each_row_is_tried_for_itself_in_turn(self):
        one, other = Script(HALT, 1, HALT, 2), Script(HALT, HALT, 3, 4)
        row = in_turn([again(one), again(other)])
        self.assertEqual(row.draw(), 1)
        self.assertIsInstance(outcome(row), NoMore)
        self.check(row, [3, 2, 4])

    def test_instead_of_a_chain(self):
        row = instead(chained([listed([1]), Script(2, HALT, 3)]), chained([Script(HALT, 5), listed([6])]))
        self.check(row, [1, 2, HALT, 5, 6])

    def test_tired_within_other_rows(self):
        for make in (lambda row: chained([row, listed([9])]), lambda row: in_turn([row]), lambda row: again(row, 5),
                     lambda row: instead(row, listed([9])), lambda row: parcels(row, 1), lambda row: split(row)[1],
                     lambda row: merged(row, listed([]), signs), lambda row: Memory(row).replay(),
                     lambda row: watched(row, lambda word, x: None)):
            script = Script(1, 2)
            row = make(limited(script, 1))
            row.draw()
            for _ in range(3):
                self.assertIsInstance(outcome(row), Tired)
            self.assertEqual(script.draws, 1)

    def test_parcels_wait_behind_being_tired_and_no_more(self):
        row = parcels(again(Script(1, HALT, 2, HALT, HALT, 3)), 3)
        self.assertIsInstance(outcome(row), NoMore)
        self.check(row, [[1, 2, 3]])

    def test_a_row_that_is_shared_and_merged_again(self):
        script = Script(3, HALT, 1, 2)
        one, other = split(script)
        row = merged(one, kept(other, lambda x: x != 1), lambda x: x)
        self.check(row, [3, HALT, 1, 2, 3, 2])
        self.assertEqual(script.draws, 5)

    def test_a_memory_with_itself(self):
        script = Script(1, 2, 3)
        memory = Memory(script)
        self.check(pairs(memory.replay(), skipped(memory.replay(), 1)), [(1, 2), (2, 3)])
        self.assertEqual(script.draws, 4)
        self.check(chained([memory.replay(), taken(memory.replay(), 2)]), [1, 2, 3, 1, 2])
        self.assertEqual(script.draws, 4)

    def test_watched_within_tries(self):
        note = Noting(lambda word, x: None)
        row = again(watched(Script(HALT, 5), note))
        self.check(row, [5])
        self.assertEqual(note.calls, [("ask", None), ("halt", "tea"), ("ask", None), ("item", 5), ("ask", None),
                                      ("over", None)])

    def test_watched_around_tries(self):
        note = Noting(lambda word, x: None)
        row = watched(again(Script(HALT, 5, HALT, HALT)), note)
        self.assertEqual(row.draw(), 5)
        self.assertIsInstance(outcome(row), NoMore)
        self.check(row, [])
        self.assertEqual(note.calls, [("ask", None), ("item", 5), ("ask", None), ("ask", None), ("over", None)])

    def test_a_limit_within_tries_counts_each_of_them(self):
        row = again(limited(Script(HALT, HALT, HALT, 4), 2), 5)
        self.assertIsInstance(outcome(row), Tired)
        row = limited(again(Script(HALT, HALT, HALT, 4), 5), 2)
        self.check(row, [4])


class Making(unittest.TestCase):
    def makers(self, row, other, work):
        return [pairs(row, other), chained([row, other]), in_turn([row, other]), merged(row, other, work),
                Memory(row).replay(), watched(row, work), again(row, 3), instead(row, other), limited(row, 9)]

    def test_nothing_is_drawn_or_called(self):
        row, other, work = Script(1, 2), Script(1), Noting(lambda *things: 0)
        self.makers(row, other, work)
        split(row, 9)
        Memory(row).drawn()
        self.assertEqual((row.draws, other.draws, work.calls), (0, 0, []))

    def test_nothing_is_drawn_or_called_behind_over(self):
        for at in range(9):
            log = []
            row, other = Script(1, 2, log=log), Script(1, log=log)
            made = self.makers(row, other, Noting(lambda *things: 0, log=log))[at]
            while outcome(made) != OVER:
                self.assertLess(len(log), 20)
            before = list(log)
            for _ in range(3):
                with self.assertRaises(Over):
                    made.draw()
            self.assertEqual(log, before)

    def test_over_of_a_work_that_would_tell_more(self):
        answers = [1, None, 2, None, 3]
        work = Noting(lambda: answers.pop(0))
        for make in (lambda row: chained([row]), lambda row: in_turn([row]), lambda row: split(row)[0],
                     lambda row: Memory(row).replay(), lambda row: instead(row, listed([9])), again,
                     lambda row: limited(row, 9), lambda row: merged(row, listed([]), signs),
                     lambda row: merged(listed([]), row, signs), lambda row: pairs(row, counted(0))):
            answers[:] = [1, None, 2, None, 3]
            row = make(asked(work))
            self.assertEqual(outcomes(row, 5)[1:], [OVER] * 4)
            self.assertEqual(answers, [2, None, 3])


if __name__ == "__main__":
    unittest.main()
