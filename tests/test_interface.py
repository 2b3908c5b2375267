"""Names, arguments and default values, as the document's interface lists them."""

import inspect
import unittest

from drawnworks import ends, errors, notes, plans, rows, several, sharing, stages, trying
from drawnworks.ends import all_so, any_so, columns, count, each, everything, first, fold, least, parted, tally
from drawnworks.errors import BadPlan, BadText, Halt, NoMore, NoWork, Tired
from drawnworks.notes import read, written
from drawnworks.plans import made, shorter
from drawnworks.rows import asked, counted, figures, grown, lined, listed, places
from drawnworks.several import chained, in_turn, merged, pairs
from drawnworks.sharing import Memory, split
from drawnworks.stages import (flat, kept, mapped, numbered, once, parcels, past, runs, scanned, skipped, taken,
                               until, windows)
from drawnworks.trying import again, instead, limited, watched
from tests.helping import Script, outcome, told

NEEDED = inspect.Parameter.empty
ROWS = {
    "listed": [("items", NEEDED)],
    "counted": [("begin", NEEDED), ("step", 1), ("many", None)],
    "asked": [("work", NEEDED)],
    "grown": [("work", NEEDED), ("state", NEEDED)],
    "figures": [("number", NEEDED), ("base", 10)],
    "places": [("number", NEEDED)],
    "lined": [("text", NEEDED)],
}
STAGES = {
    "mapped": [("row", NEEDED), ("work", NEEDED)],
    "kept": [("row", NEEDED), ("test", NEEDED)],
    "taken": [("row", NEEDED), ("many", NEEDED)],
    "skipped": [("row", NEEDED), ("many", NEEDED)],
    "until": [("row", NEEDED), ("test", NEEDED)],
    "past": [("row", NEEDED), ("test", NEEDED)],
    "numbered": [("row", NEEDED), ("begin", 0)],
    "flat": [("row", NEEDED)],
    "parcels": [("row", NEEDED), ("many", NEEDED)],
    "windows": [("row", NEEDED), ("many", NEEDED)],
    "scanned": [("row", NEEDED), ("work", NEEDED), ("begin", NEEDED)],
    "once": [("row", NEEDED), ("key", None)],
    "runs": [("row", NEEDED), ("key", None)],
}
SEVERAL = {
    "pairs": [("one", NEEDED), ("other", NEEDED)],
    "chained": [("rows", NEEDED)],
    "in_turn": [("rows", NEEDED)],
    "merged": [("one", NEEDED), ("other", NEEDED), ("key", NEEDED)],
}
SHARING = {
    "split": [("row", NEEDED), ("many", 2)],
    "Memory": [("row", NEEDED)],
}
MEMORY = {
    "item": [("self", NEEDED), ("number", NEEDED)],
    "drawn": [("self", NEEDED)],
    "replay": [("self", NEEDED)],
}
TRYING = {
    "watched": [("row", NEEDED), ("note", NEEDED)],
    "again": [("row", NEEDED), ("times", 1)],
    "instead": [("row", NEEDED), ("other", NEEDED)],
    "limited": [("row", NEEDED), ("most", NEEDED)],
}
ENDS = {
    "fold": [("row", NEEDED), ("work", NEEDED), ("begin", 0)],
    "everything": [("row", NEEDED)],
    "each": [("row", NEEDED), ("work", NEEDED)],
    "count": [("row", NEEDED)],
    "first": [("row", NEEDED), ("test", None), ("other", None)],
    "any_so": [("row", NEEDED), ("test", NEEDED)],
    "all_so": [("row", NEEDED), ("test", NEEDED)],
    "least": [("row", NEEDED), ("key", None)],
    "tally": [("row", NEEDED), ("key", None)],
    "parted": [("row", NEEDED), ("test", NEEDED)],
    "columns": [("row", NEEDED), ("sides", NEEDED), ("gap", " ")],
}
PLANS = {
    "made": [("plan", NEEDED), ("row", NEEDED), ("works", NEEDED)],
    "shorter": [("plan", NEEDED)],
}
NOTES = {
    "written": [("plan", NEEDED)],
    "read": [("text", NEEDED)],
}
ERRORS = {
    "Halt": [("why", NEEDED)],
    "Tired": [("most", NEEDED)],
    "NoMore": [("tries", NEEDED)],
    "BadPlan": [("at", NEEDED)],
    "NoWork": [("name", NEEDED)],
    "BadText": [("row", NEEDED)],
}


def numbers():
    return listed([1, 1, 2, 3])


class Arguments(unittest.TestCase):
    def check(self, module, interface):
        for name, wanted in interface.items():
            signature = inspect.signature(getattr(module, name))
            given = [(one.name, one.default) for one in signature.parameters.values()]
            self.assertEqual(given, wanted, name)
            for one in signature.parameters.values():
                self.assertEqual(one.kind, inspect.Parameter.POSITIONAL_OR_KEYWORD, name)

    def test_rows(self):
        self.check(rows, ROWS)

    def test_stages(self):
        self.check(stages, STAGES)

    def test_several(self):
        self.check(several, SEVERAL)

    def test_sharing(self):
        self.check(sharing, SHARING)
        self.check(Memory, MEMORY)
        self.assertIsInstance(Memory, type)

    def test_trying(self):
        self.check(trying, TRYING)

    def test_ends(self):
        self.check(ends, ENDS)

    def test_plans_and_notes(self):
        self.check(plans, PLANS)
        self.check(notes, NOTES)

    def test_errors(self):
        self.check(errors, ERRORS)


class ByName(unittest.TestCase):
    def check(self, row, items):
        self.assertEqual(told(row), items)

    def test_rows(self):
        self.check(listed(items=[1, 2]), [1, 2])
        self.check(counted(many=3, step=-2, begin=4), [4, 2, 0])
        left = [2, 1]
        self.check(asked(work=lambda: left.pop() if left else None), [1, 2])
        self.check(grown(state=2, work=lambda n: (n * 5, n - 1) if n else None), [10, 5])
        self.check(figures(base=2, number=6), [0, 1, 1])
        self.check(places(number=6), [1, 2])
        self.check(lined(text="a\nb"), ["a", "b"])

    def test_stages(self):
        self.check(mapped(work=str, row=numbers()), ["1", "1", "2", "3"])
        self.check(kept(test=lambda x: x > 1, row=numbers()), [2, 3])
        self.check(taken(many=2, row=numbers()), [1, 1])
        self.check(skipped(many=2, row=numbers()), [2, 3])
        self.check(until(test=lambda x: x < 2, row=numbers()), [1, 1])
        self.check(past(test=lambda x: x < 2, row=numbers()), [2, 3])
        self.check(numbered(begin=7, row=numbers()), [(7, 1), (8, 1), (9, 2), (10, 3)])
        self.check(flat(row=listed([[1], [2, 3]])), [1, 2, 3])
        self.check(parcels(many=3, row=numbers()), [[1, 1, 2], [3]])
        self.check(windows(many=3, row=numbers()), [[1, 1, 2], [1, 2, 3]])
        self.check(scanned(begin=9, work=lambda a, b: a + b, row=numbers()), [9, 10, 11, 13, 16])
        self.check(once(key=lambda x: x % 2, row=numbers()), [1, 2])
        self.check(runs(key=lambda x: x > 2, row=numbers()), [[1, 1, 2], [3]])

    def test_several(self):
        self.check(pairs(other=listed([5]), one=numbers()), [(1, 5)])
        self.check(chained(rows=[listed([5]), listed([6])]), [5, 6])
        self.check(in_turn(rows=[listed([5, 7]), listed([6])]), [5, 6, 7])
        self.check(merged(key=lambda x: -x, other=listed([5]), one=numbers()), [5, 1, 1, 2, 3])

    def test_sharing(self):
        for row in split(many=3, row=numbers()):
            self.check(row, [1, 1, 2, 3])
        memory = Memory(row=numbers())
        self.assertEqual((memory.item(number=2), memory.drawn()), (2, 3))
        self.check(memory.replay(), [1, 1, 2, 3])

    def test_trying(self):
        self.check(watched(note=lambda word, x: None, row=numbers()), [1, 1, 2, 3])
        self.check(again(times=3, row=Script(Halt(1), Halt(2), Halt(3), 4)), [4])
        self.check(instead(other=listed([5]), row=Script(1, Halt(2))), [1, 5])
        self.check(limited(most=9, row=numbers()), [1, 1, 2, 3])

    def test_ends(self):
        self.assertEqual(fold(begin=5, work=lambda so_far, x: so_far * x, row=numbers()), 30)
        self.assertEqual(everything(row=numbers()), [1, 1, 2, 3])
        self.assertEqual(each(work=str, row=numbers()), 4)
        self.assertEqual(count(row=numbers()), 4)
        self.assertEqual(first(other=9, test=lambda x: x > 1, row=numbers()), 2)
        self.assertEqual(first(other=9, test=lambda x: x > 5, row=numbers()), 9)
        self.assertIs(any_so(test=lambda x: x > 2, row=numbers()), True)
        self.assertIs(all_so(test=lambda x: x > 2, row=numbers()), False)
        self.assertEqual(least(key=lambda x: -x, row=numbers()), 3)
        self.assertEqual(tally(key=lambda x: x % 2, row=numbers()), [(1, 3), (0, 1)])
        self.assertEqual(parted(test=lambda x: x > 1, row=numbers()), ([2, 3], [1, 1]))
        self.assertEqual(columns(gap="-", sides="l0", row=listed([["a", "1"], ["bb", "22"]])), "a -01\nbb-22")

    def test_plans_and_notes(self):
        plan = [("map", "text"), ("take", 2), ("take", 3)]
        self.check(made(works={"text": str}, row=numbers(), plan=plan), ["1", "1"])
        self.assertEqual(shorter(plan=plan), [("map", "text"), ("take", 2)])
        self.assertEqual(written(plan=plan), "map text\ntake 2\ntake 3")
        self.assertEqual(read(text="map text\ntake 2\ntake 3"), plan)

    def test_errors(self):
        self.assertEqual((Halt(why=1).why, Tired(most=2).most, NoMore(tries=3).tries), (1, 2, 3))
        self.assertEqual((BadPlan(at=4).at, NoWork(name="a").name, BadText(row=5).row), (4, "a", 5))

    def test_default_values(self):
        self.check(taken(counted(5), 3), [5, 6, 7])
        self.check(counted(5, 2, 2), [5, 7])
        self.check(figures(120), [0, 2, 1])
        self.check(numbered(listed(["a"])), [(0, "a")])
        self.check(once(numbers()), [1, 2, 3])
        self.check(runs(numbers()), [[1, 1], [2], [3]])
        self.assertEqual(len(split(numbers())), 2)
        self.assertEqual(outcome(again(Script(Halt(1), Halt(2), 3))).tries, 2)
        self.assertEqual(fold(numbers(), lambda so_far, x: so_far + x), 7)
        self.assertEqual(first(numbers()), 1)
        self.assertIsNone(first(listed([])))
        self.assertEqual(least(listed([3, 1, 2])), 1)
        self.assertEqual(tally(numbers()), [(1, 2), (2, 1), (3, 1)])
        self.assertEqual(columns(listed([["a", "b"]]), "ll"), "a b")


class Drawn(unittest.TestCase):
    def test_every_row_has_the_method_draw_in_its_own_class(self):
        found = [listed([]), counted(0), asked(str), grown(str, 0), figures(1), places(1), lined("")]
        row = Script()
        found += [mapped(row, str), kept(row, bool), taken(row, 0), skipped(row, 0), until(row, bool), past(row, bool)]
        found += [numbered(row), flat(row), parcels(row, 1), windows(row, 1), scanned(row, max, 0), once(row)]
        found += [runs(row)]
        found += [pairs(row, row), chained([row]), in_turn([row]), merged(row, row, str), Memory(row).replay()]
        found += split(row, 9) + [watched(row, str), again(row), instead(row, row), limited(row, 0)]
        found += [made(plan, row, {"a": str}) for plan in ([], [("map", "a")], [("skip", 0)], [("once",)])]
        for one in found:
            self.assertIn("draw", vars(type(one)))
        self.assertEqual(row.draws, 0)


if __name__ == "__main__":
    unittest.main()
