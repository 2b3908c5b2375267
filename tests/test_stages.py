"""Point [5]: rows of one row, without refusals within."""

import unittest

from drawnworks.errors import BadCount, BadPlan, BadText, DrawError, Halt, NoMore, NoWork, Over, Tired
from drawnworks.rows import counted, listed
from drawnworks.stages import (flat, kept, mapped, numbered, once, parcels, past, runs, scanned, skipped, taken,
                               until, windows)
from tests.helping import OVER, Noting, Script, outcomes, told

OTHERS = (Over, Halt, Tired, NoMore, BadPlan, NoWork, BadText)


class StageCase(unittest.TestCase):
    def tells(self, row, items):
        """Every item in its order, then Over, and Over again."""
        self.assertEqual(outcomes(row, len(items) + 3), items + [OVER, OVER, OVER])

    def refuses(self, make, many):
        row = Script(1, 2)
        with self.assertRaises(BadCount) as caught:
            make(row, many)
        self.assertIsInstance(caught.exception, DrawError)
        self.assertIsInstance(caught.exception, ValueError)
        self.assertNotIsInstance(caught.exception, OTHERS)
        self.assertEqual(row.draws, 0)
        self.assertEqual(outcomes(row, 3), [1, 2, OVER])

    def draws_by_items(self, make, events, wanted):
        """How often the row was drawn so far, behind each draw of what is made of it."""
        row = Script(*events)
        made = make(row)
        found = [row.draws]
        for _ in range(len(wanted) - 1):
            outcomes(made, 1)
            found.append(row.draws)
        self.assertEqual(found, wanted)


class OverIsOver(StageCase):
    MAKERS = [
        lambda row, work: mapped(row, work),
        lambda row, work: kept(row, work),
        lambda row, work: taken(row, 9),
        lambda row, work: skipped(row, 1),
        lambda row, work: skipped(row, 9),
        lambda row, work: until(row, work),
        lambda row, work: past(row, work),
        lambda row, work: numbered(row, 3),
        lambda row, work: parcels(row, 2),
        lambda row, work: parcels(row, 9),
        lambda row, work: windows(row, 2),
        lambda row, work: windows(row, 9),
        lambda row, work: scanned(row, work, 0),
        lambda row, work: once(row),
        lambda row, work: once(row, work),
        lambda row, work: runs(row),
        lambda row, work: runs(row, work),
    ]

    def test_the_row_is_drawn_to_its_over_once_and_no_work_is_called_behind_it(self):
        for make in self.MAKERS:
            for answer in (True, False):
                row = Script(1, 2, 3)
                work = Noting(lambda *things: answer)
                made = make(row, work)
                self.assertEqual((row.draws, work.calls), (0, []))
                told(made)
                draws, calls = row.draws, list(work.calls)
                self.assertLessEqual(draws, 4)
                for above in (Over, DrawError, ValueError):
                    with self.assertRaises(above) as caught:
                        made.draw()
                    self.assertIs(type(caught.exception), Over)
                self.assertEqual((row.draws, work.calls), (draws, calls))

    def test_of_an_empty_row(self):
        for make in self.MAKERS:
            row = Script()
            work = Noting(lambda *things: True)
            made = make(row, work)
            told(made)
            self.assertEqual(outcomes(made, 3), [OVER] * 3)
            self.assertEqual((row.draws, work.calls), (1, []))

    def test_of_flat(self):
        row = Script([1], [])
        self.tells(flat(row), [1])
        self.assertEqual(row.draws, 3)


class Mapped(StageCase):
    def test_items(self):
        self.tells(mapped(listed([1, 2, 3]), lambda x: x * x), [1, 4, 9])
        self.tells(mapped(listed([]), lambda x: x), [])

    def test_what_is_told_is_taken_as_it_is(self):
        own = [1]
        self.assertIs(mapped(listed([0]), lambda x: own).draw(), own)
        self.tells(mapped(listed([1, 2]), lambda x: None), [None, None])

    def test_one_call_for_each_draw(self):
        log = []
        made = mapped(Script("a", "b", log=log), Noting(str.upper, log=log))
        self.assertEqual(log, [])
        self.assertEqual(made.draw(), "A")
        self.assertEqual(log, ["draw", ("a",)])
        self.tells(made, ["B"])
        self.assertEqual(log, ["draw", ("a",), "draw", ("b",), "draw"])


class Kept(StageCase):
    def test_items(self):
        self.tells(kept(listed([1, 2, 3, 4, 5]), lambda x: x % 2 == 1), [1, 3, 5])
        self.tells(kept(listed([1, 2]), lambda x: True), [1, 2])
        self.tells(kept(listed([1, 2]), lambda x: False), [])

    def test_each_is_asked_once_when_it_is_needed(self):
        log = []
        made = kept(Script(1, 4, 6, 3, log=log), Noting(lambda x: x % 2 == 0, log=log))
        self.assertEqual(made.draw(), 4)
        self.assertEqual(log, ["draw", (1,), "draw", (4,)])
        self.tells(made, [6])
        self.assertEqual(log[4:], ["draw", (6,), "draw", (3,), "draw"])

    def test_items_are_told_as_they_came(self):
        item = [1]
        self.assertIs(kept(listed([item]), lambda x: True).draw(), item)


class Taken(StageCase):
    def test_fewer_as_many_and_more_than_there_are(self):
        self.tells(taken(listed([1, 2, 3]), 2), [1, 2])
        self.tells(taken(listed([1, 2, 3]), 3), [1, 2, 3])
        self.tells(taken(listed([1, 2, 3]), 9), [1, 2, 3])
        self.tells(taken(counted(0), 4), [0, 1, 2, 3])
        self.tells(taken(listed([]), 4), [])

    def test_nothing_is_drawn_behind_the_last(self):
        self.draws_by_items(lambda row: taken(row, 2), [1, 2, 3], [0, 1, 2, 2, 2])
        self.draws_by_items(lambda row: taken(row, 0), [1, 2, 3], [0, 0, 0])
        self.draws_by_items(lambda row: taken(row, 4), [1, 2], [0, 1, 2, 3, 3])

    def test_too_little(self):
        for many in (-1, -2, -(10 ** 9000)):
            self.refuses(taken, many)
        self.tells(taken(listed([1]), 0), [])


class Skipped(StageCase):
    def test_fewer_as_many_and_more_than_there_are(self):
        self.tells(skipped(listed([1, 2, 3]), 0), [1, 2, 3])
        self.tells(skipped(listed([1, 2, 3]), 2), [3])
        self.tells(skipped(listed([1, 2, 3]), 3), [])
        self.tells(skipped(listed([1, 2, 3]), 9), [])

    def test_drawn_with_the_first_item(self):
        self.draws_by_items(lambda row: skipped(row, 2), [1, 2, 3, 4], [0, 3, 4, 5, 5])
        self.draws_by_items(lambda row: skipped(row, 0), [1, 2], [0, 1, 2, 3, 3])
        self.draws_by_items(lambda row: skipped(row, 5), [1, 2], [0, 3, 3])

    def test_around_taken_and_within_it(self):
        self.tells(taken(skipped(counted(0), 3), 2), [3, 4])
        self.tells(skipped(taken(counted(0), 5), 3), [3, 4])
        self.tells(skipped(taken(counted(0), 2), 3), [])
        self.tells(skipped(skipped(listed([1, 2, 3, 4]), 1), 2), [4])
        self.tells(taken(taken(counted(0), 3), 2), [0, 1])
        self.tells(taken(taken(counted(0), 2), 3), [0, 1])
        self.draws_by_items(lambda row: taken(skipped(row, 2), 0), [1, 2, 3], [0, 0, 0])
        self.draws_by_items(lambda row: taken(skipped(row, 2), 1), [1, 2, 3, 4], [0, 3, 3, 3])
        self.draws_by_items(lambda row: skipped(taken(row, 2), 2), [1, 2, 3, 4], [0, 2, 2])
        self.draws_by_items(lambda row: skipped(taken(row, 2), 1), [1, 2, 3, 4], [0, 2, 2, 2])

    def test_too_little(self):
        for many in (-1, -5, -(10 ** 9000)):
            self.refuses(skipped, many)


class Until(StageCase):
    def check(self, items, wanted, asked):
        row = Script(*items)
        test = Noting(lambda x: x < 5)
        self.tells(until(row, test), wanted)
        self.assertEqual(test.calls, [(x,) for x in asked])
        return row.draws

    def test_fails_at_the_first_at_a_later_one_and_never(self):
        self.assertEqual(self.check([7, 1, 2], [], [7]), 1)
        self.assertEqual(self.check([1, 2, 5, 1, 2], [1, 2], [1, 2, 5]), 3)
        self.assertEqual(self.check([1, 2], [1, 2], [1, 2]), 3)

    def test_of_a_row_without_end(self):
        self.tells(until(counted(3), lambda x: x < 5), [3, 4])


class Past(StageCase):
    def check(self, items, wanted, asked):
        test = Noting(lambda x: x < 5)
        self.tells(past(listed(items), test), wanted)
        self.assertEqual(test.calls, [(x,) for x in asked])

    def test_fails_at_the_first_at_a_later_one_and_never(self):
        self.check([7, 1, 8, 2], [7, 1, 8, 2], [7])
        self.check([1, 2, 5, 1, 2], [5, 1, 2], [1, 2, 5])
        self.check([1, 2], [], [1, 2])

    def test_drawn_when_needed(self):
        self.draws_by_items(lambda row: past(row, lambda x: x < 2), [1, 1, 2, 1], [0, 3, 4, 5, 5])


class Numbered(StageCase):
    def test_from_nought_and_from_other_numbers(self):
        self.tells(numbered(listed(["a", "b"])), [(0, "a"), (1, "b")])
        self.tells(numbered(listed(["a", "b"]), 5), [(5, "a"), (6, "b")])
        self.tells(numbered(listed(["a", "b"]), -1), [(-1, "a"), (0, "b")])
        self.tells(numbered(listed(["a", "b"]), 10 ** 30), [(10 ** 30, "a"), (10 ** 30 + 1, "b")])
        self.tells(numbered(listed([]), 4), [])

    def test_they_are_tuples_of_the_very_items(self):
        item = [1]
        pair = numbered(listed([item])).draw()
        self.assertIs(type(pair), tuple)
        self.assertIs(pair[1], item)


class Flat(StageCase):
    def test_items(self):
        self.tells(flat(listed([[1, 2], [3], [4, 5]])), [1, 2, 3, 4, 5])
        self.tells(flat(listed([[], [1], [], [], [2], []])), [1, 2])
        self.tells(flat(listed([[], []])), [])
        self.tells(flat(listed([])), [])

    def test_one_level_only(self):
        item = [2, 3]
        row = flat(listed([[[1], item], [None]]))
        self.assertEqual(row.draw(), [1])
        self.assertIs(row.draw(), item)
        self.tells(row, [None])

    def test_a_list_is_drawn_when_its_first_item_is_needed(self):
        self.draws_by_items(flat, [[1, 2], [], [3]], [0, 1, 1, 3, 4, 4])

    def test_as_the_list_is_when_it_is_drawn(self):
        one, other = [1, 2, 3], [4]
        row = flat(listed([one, other]))
        one.append(9)
        self.assertEqual(row.draw(), 1)
        one.clear()
        other.append(5)
        self.assertEqual(outcomes(row, 5), [2, 3, 9, 4, 5])
        self.tells(row, [])

    def test_the_lists_are_not_changed(self):
        lists = [[1, 2], [3]]
        told(flat(listed(lists)))
        self.assertEqual(lists, [[1, 2], [3]])


class Parcels(StageCase):
    def test_fewer_as_many_and_more_items(self):
        self.tells(parcels(listed([1, 2]), 3), [[1, 2]])
        self.tells(parcels(listed([1, 2, 3]), 3), [[1, 2, 3]])
        self.tells(parcels(listed([1, 2, 3, 4]), 3), [[1, 2, 3], [4]])
        self.tells(parcels(listed([1, 2, 3, 4, 5, 6]), 3), [[1, 2, 3], [4, 5, 6]])
        self.tells(parcels(listed([1, 2]), 1), [[1], [2]])
        self.tells(parcels(listed([]), 3), [])

    def test_drawn_when_needed(self):
        self.draws_by_items(lambda row: parcels(row, 2), [1, 2, 3, 4], [0, 2, 4, 5, 5])
        self.draws_by_items(lambda row: parcels(row, 2), [1, 2, 3], [0, 2, 4, 4, 4])

    def test_lists_may_be_changed_by_whoever_got_them(self):
        row = parcels(listed([1, 2, 3, 4, 5]), 2)
        row.draw().append(9)
        second = row.draw()
        self.assertEqual(second, [3, 4])
        second.clear()
        self.assertEqual(row.draw(), [5])

    def test_too_little(self):
        for many in (0, -1, -(10 ** 9000)):
            self.refuses(parcels, many)


class Windows(StageCase):
    def test_fewer_as_many_and_more_items(self):
        self.tells(windows(listed([1, 2]), 3), [])
        self.tells(windows(listed([1, 2, 3]), 3), [[1, 2, 3]])
        self.tells(windows(listed([1, 2, 3, 4, 5]), 3), [[1, 2, 3], [2, 3, 4], [3, 4, 5]])
        self.tells(windows(listed([1, 2]), 1), [[1], [2]])
        self.tells(windows(listed([]), 1), [])

    def test_drawn_when_needed(self):
        self.draws_by_items(lambda row: windows(row, 3), [1, 2, 3, 4], [0, 3, 4, 5, 5])
        self.draws_by_items(lambda row: windows(row, 3), [1], [0, 2, 2])

    def test_lists_may_be_changed_by_whoever_got_them(self):
        row = windows(listed([1, 2, 3, 4, 5]), 3)
        first = row.draw()
        first[1] = 9
        first.append(7)
        second = row.draw()
        self.assertEqual(second, [2, 3, 4])
        second.clear()
        self.assertEqual(row.draw(), [3, 4, 5])

    def test_too_little(self):
        for many in (0, -1, -(10 ** 9000)):
            self.refuses(windows, many)


class Scanned(StageCase):
    def test_items(self):
        self.tells(scanned(listed([1, 2, 3]), lambda last, x: last * 10 + x, 7), [7, 71, 712, 7123])
        self.tells(scanned(listed([]), lambda last, x: 0, "begin"), ["begin"])
        self.tells(scanned(listed([1]), lambda last, x: None, None), [None, None])

    def test_nothing_is_drawn_for_the_first(self):
        log = []
        begin = []
        made = scanned(Script(1, 2, log=log), Noting(lambda last, x: last + [x], log=log), begin)
        self.assertIs(made.draw(), begin)
        self.assertEqual(log, [])
        self.tells(made, [[1], [1, 2]])
        self.assertEqual(log, ["draw", ([], 1), "draw", ([1], 2), "draw"])

    def test_last_is_the_very_thing_that_was_told(self):
        work = Noting(lambda last, x: [x])
        made = scanned(listed([1, 2]), work, [0])
        first, second = made.draw(), made.draw()
        made.draw()
        self.assertIs(work.calls[0][0], first)
        self.assertIs(work.calls[1][0], second)


class Once(StageCase):
    def test_without_a_key(self):
        self.tells(once(listed([1, 2, 1, 3, 3, 2, 4])), [1, 2, 3, 4])
        self.tells(once(listed([])), [])

    def test_items_of_all_kinds(self):
        items = [None, "a", (1, 2), [1], [1, [2]], (1, [2]), {"a": 1}, b"a", 10 ** 30, -1, "", (), []]
        self.tells(once(listed(items + items[::-1])), items)

    def test_tuples_of_any_depth(self):
        deep, same, other = 1, 1, 2
        for _ in range(60):
            deep, same, other = (deep, 0), (same, 0), (other, 0)
            self.tells(once(listed([deep, same, other, deep])), [deep, other])

    def test_with_a_key(self):
        key = Noting(lambda x: len(x))
        row = Script("a", "bb", "c", "", "dd", "eee")
        self.tells(once(row, key), ["a", "bb", "", "eee"])
        self.assertEqual(key.calls, [("a",), ("bb",), ("c",), ("",), ("dd",), ("eee",)])
        self.assertEqual(row.draws, 7)

    def test_a_key_that_is_a_list(self):
        self.tells(once(listed([12, 21, 30, 3]), lambda x: sorted(str(x))), [12, 30, 3])

    def test_a_key_that_is_none(self):
        self.tells(once(listed([1, 2, 3]), lambda x: None), [1])

    def test_drawn_when_needed(self):
        self.draws_by_items(once, [1, 1, 2, 1, 3], [0, 1, 3, 5, 6, 6])

    def test_items_are_told_as_they_came(self):
        item = [1]
        self.assertIs(once(listed([item])).draw(), item)

    def test_lists_that_were_told_may_be_changed(self):
        row = once(parcels(listed([1, 2, 1, 2, 5]), 2))
        row.draw().clear()
        self.tells(row, [[5]])
        row = once(listed([([1], 2), ([1], 2), ([], 2)]))
        row.draw()[0].clear()
        self.tells(row, [([], 2)])
        row = once(listed([{"a": [1]}, {"a": [1]}, {"a": [2]}]))
        row.draw()["a"][0] = 2
        self.tells(row, [{"a": [2]}])
        row = once(listed([[[1]], [[1]], [[]]]))
        row.draw()[0].clear()
        self.tells(row, [[[]]])

    def test_a_key_that_its_work_changes_later(self):
        own = []

        def key(x):
            own.append(x)
            return own
        self.tells(once(listed([1, 1, 1]), key), [1, 1, 1])

    def test_many_items(self):
        items = list(range(30000)) * 2
        self.assertEqual(told(once(listed(items))), items[:30000])
        pairs = [(one, str(one)) for one in items]
        self.assertEqual(told(once(listed(pairs))), pairs[:30000])


class Runs(StageCase):
    def test_without_a_key(self):
        self.tells(runs(listed([1, 1, 2, 3, 3, 3, 1])), [[1, 1], [2], [3, 3, 3], [1]])
        self.tells(runs(listed([5])), [[5]])
        self.tells(runs(listed([5, 5])), [[5, 5]])
        self.tells(runs(listed([])), [])
        self.tells(runs(listed([None, None, "", [], [], (), None])), [[None, None], [""], [[], []], [()], [None]])

    def test_with_a_key(self):
        key = Noting(lambda x: x // 10)
        self.tells(runs(listed([1, 5, 12, 3, 4, 25]), key), [[1, 5], [12], [3, 4], [25]])
        self.assertEqual(key.calls, [(1,), (5,), (12,), (3,), (4,), (25,)])

    def test_a_key_that_is_none(self):
        self.tells(runs(listed([1, 2, 3]), lambda x: None), [[1, 2, 3]])

    def test_the_first_of_another_key_is_drawn_and_asked_with_the_list_ahead(self):
        log = []
        made = runs(Script(1, 1, 2, log=log), Noting(lambda x: x, log=log))
        self.assertEqual(made.draw(), [1, 1])
        self.assertEqual(log, ["draw", (1,), "draw", (1,), "draw", (2,)])
        self.assertEqual(made.draw(), [2])
        self.assertEqual(log[6:], ["draw"])
        self.tells(made, [])
        self.assertEqual(log[6:], ["draw"])

    def test_lists_may_be_changed_by_whoever_got_them(self):
        row = runs(listed([1, 1, 2, 2, 3]))
        row.draw().append(9)
        second = row.draw()
        self.assertEqual(second, [2, 2])
        second.clear()
        self.tells(row, [[3]])

    def test_a_key_that_its_work_changes_later(self):
        own = []

        def key(x):
            own.append(x)
            return own
        self.tells(runs(listed([1, 1]), key), [[1], [1]])


class AroundEachOther(StageCase):
    def test_many_stages(self):
        row = counted(0)
        for _ in range(100):
            row = mapped(row, lambda x: x + 1)
        self.assertEqual(outcomes(row, 3), [100, 101, 102])

    def test_parcels_and_flat_undo_each_other(self):
        for many in range(1, 9):
            for size in range(10):
                items = list(range(size))
                self.tells(flat(parcels(listed(items), many)), items)

    def test_calls_are_made_only_for_what_is_drawn(self):
        log = []
        row = mapped(counted(1), Noting(lambda x: x * x, log=log))
        row = taken(kept(row, Noting(lambda x: x % 2 == 0, log=log)), 1)
        self.tells(row, [4])
        self.assertEqual(log, [(1,), (1,), (2,), (4,)])


if __name__ == "__main__":
    unittest.main()
