"""Point [6]: rows of several rows."""

import itertools
import unittest

from drawnworks.errors import Halt
from drawnworks.rows import counted, listed
from drawnworks.several import chained, in_turn, merged, pairs
from drawnworks.stages import mapped, taken
from tests.helping import OVER, Noting, RowCase, Script, outcome, outcomes, refusals

HALT = Halt("tea")


def scripts(*all_events):
    """Rows called a, b, and so on, and the log that all of them write."""
    log = []
    return [Script(*events, log=log, name=name) for name, events in zip("abcdefghij", all_events)], log


class SeveralCase(RowCase):
    def check_calls(self, make, all_events, wanted):
        """wanted is (what a draw comes to, what was drawn and called for it), for each draw."""
        rows, log = scripts(*all_events)
        made = make(rows, log)
        self.assertEqual(log, [])
        for come_to, calls in wanted + [(OVER, "")] * 3:
            self.assertEqual(outcome(made), come_to)
            self.assertEqual(log, list(calls))
            log.clear()


def paired(rows, log):
    return pairs(rows[0], rows[1])


class Pairs(SeveralCase):
    def test_items(self):
        self.check(pairs(listed([1, 2]), listed("ab")), [(1, "a"), (2, "b")])
        self.check(pairs(listed([]), listed([])), [])
        self.check(taken(pairs(counted(1), counted(5)), 2), [(1, 5), (2, 6)])

    def test_they_are_tuples_of_the_very_items(self):
        one, other = [1], [2]
        pair = pairs(listed([one]), listed([other])).draw()
        self.assertIs(type(pair), tuple)
        self.assertIs(pair[0], one)
        self.assertIs(pair[1], other)

    def test_over_when_the_one_is(self):
        self.check_calls(paired, [[1], [5, 6]], [((1, 5), "ab"), (OVER, "a")])
        self.check_calls(paired, [[], [5]], [(OVER, "a")])

    def test_over_when_the_other_is(self):
        self.check_calls(paired, [[1, 2, 3], [5]], [((1, 5), "ab"), (OVER, "ab")])
        self.check_calls(paired, [[1], []], [(OVER, "ab")])

    def test_the_one_refuses(self):
        for no in refusals():
            self.check_calls(paired, [[no, 1], [5]], [(no, "a"), ((1, 5), "ab"), (OVER, "a")])

    def test_the_other_refuses(self):
        for no in refusals():
            wanted = [(no, "ab"), ((2, 5), "ab"), (no, "ab"), ((4, 6), "ab"), (OVER, "a")]
            self.check_calls(paired, [[1, 2, 3, 4], [no, 5, no, 6]], wanted)


def chain(rows, log):
    return chained(rows)


class Chained(SeveralCase):
    def test_items(self):
        self.check(chained([listed([1, 2]), listed([3]), listed([4, 5])]), [1, 2, 3, 4, 5])
        self.check(chained([listed([1, 2])]), [1, 2])

    def test_no_rows(self):
        self.check(chained([]), [])

    def test_empty_rows(self):
        for sizes in itertools.product(range(3), repeat=4):
            lists = [[(at, x) for x in range(size)] for at, size in enumerate(sizes)]
            self.check(chained([listed(items) for items in lists]), sum(lists, []))

    def test_which_is_drawn_and_when(self):
        wanted = [(1, "a"), (2, "abc"), (3, "c"), (OVER, "cd")]
        self.check_calls(chain, [[1], [], [2, 3], []], wanted)
        self.check_calls(chain, [[], []], [(OVER, "ab")])

    def test_refusals(self):
        for no in refusals():
            wanted = [(no, "a"), (1, "a"), (no, "ab"), (2, "b"), (no, "b"), (3, "bc"), (no, "c"), (OVER, "c")]
            self.check_calls(chain, [[no, 1], [no, 2, no], [3, no]], wanted)
            self.check_calls(chain, [[no, 1, no]], [(no, "a"), (1, "a"), (no, "a"), (OVER, "a")])

    def test_items_are_told_as_they_came(self):
        item = [1]
        self.assertIs(chained([listed([]), listed([item])]).draw(), item)

    def test_many_rows(self):
        self.check(chained([listed([]) for _ in range(5000)] + [listed([1])]), [1])


class InTurn(SeveralCase):
    def around(self, rows, log):
        return in_turn(rows)

    def test_items(self):
        self.check(in_turn([listed([1, 2, 3]), listed([4]), listed([5, 6])]), [1, 4, 5, 2, 6, 3])
        self.check(in_turn([listed([1, 2])]), [1, 2])
        self.check(in_turn([listed([1, 2]), listed([3, 4])]), [1, 3, 2, 4])

    def test_no_rows_and_empty_ones(self):
        self.check(in_turn([]), [])
        self.check(in_turn([listed([]), listed([])]), [])
        self.check(in_turn([listed([]), listed([1, 2]), listed([])]), [1, 2])

    def test_a_row_that_is_over_is_left_out(self):
        wanted = [(1, "a"), (2, "b"), (3, "c"), (4, "ab"), (5, "c"), (6, "b"), (OVER, "cb")]
        self.check_calls(self.around, [[1], [2, 4, 6], [3, 5]], wanted)
        self.check_calls(self.around, [[], [], [1]], [(1, "abc"), (OVER, "c")])
        self.check_calls(self.around, [[1], [], []], [(1, "a"), (OVER, "bca")])
        self.check_calls(self.around, [[1, 2, 3], [], [4]], [(1, "a"), (4, "bc"), (2, "a"), (3, "ca"), (OVER, "a")])

    def test_a_row_that_refuses_keeps_its_turn(self):
        for no in refusals():
            wanted = [(1, "a"), (no, "b"), (no, "b"), (3, "b"), (2, "a"), (OVER, "ba")]
            self.check_calls(self.around, [[1, 2], [no, no, 3]], wanted)
            wanted = [(1, "a"), (2, "c"), (no, "a"), (3, "ac"), (OVER, "c")]
            self.check_calls(lambda rows, log: in_turn([rows[0], rows[2]]), [[1, no], [], [2, 3]], wanted)
            wanted = [(no, "ab"), (1, "b"), (no, "b"), (OVER, "b")]
            self.check_calls(self.around, [[], [no, 1, no]], wanted)

    def test_the_last_one_is_over_at_its_turn(self):
        wanted = [(1, "a"), (2, "b"), (3, "c"), (4, "a"), (5, "b"), (6, "ca"), (OVER, "ba")]
        self.check_calls(self.around, [[1, 4, 6], [2, 5], [3]], wanted)

    def test_items_are_told_as_they_came(self):
        item = [1]
        self.assertIs(in_turn([listed([]), listed([item])]).draw(), item)

    def test_of_unlike_lengths(self):
        for sizes in itertools.product(range(4), repeat=3):
            lists = [[(at, x) for x in range(size)] for at, size in enumerate(sizes)]
            wanted = [(at, x) for x in range(3) for at in range(3) if x < sizes[at]]
            self.check(in_turn([listed(items) for items in lists]), wanted)


class TheListOfRows(SeveralCase):
    def test_it_is_not_changed(self):
        for make in (chained, in_turn):
            rows = [listed([1]), listed([]), listed([2])]
            same = list(rows)
            self.check(make(rows), [1, 2])
            self.assertEqual(len(rows), 3)
            self.assertTrue(all(one is other for one, other in zip(rows, same)))

    def test_it_may_be_changed_later(self):
        for make in (chained, in_turn):
            rows = [listed([1]), listed([2])]
            made = make(rows)
            rows.append(listed([9]))
            rows[1] = listed([8])
            self.assertEqual(made.draw(), 1)
            rows.clear()
            self.check(made, [2])
            rows = []
            made = make(rows)
            rows.append(listed([9]))
            self.check(made, [])


def merge(rows, log):
    def key(x):
        log.append(x)
        return x[1]
    return merged(rows[0], rows[1], key)


def model_of_merged(one, other):
    """What is told by merged of two rows of events, the keys being the items' first."""
    lists, waits, come_to = [list(one), list(other)], [None, None], []
    while True:
        for side in (0, 1):
            if waits[side] is None and lists[side]:
                event = lists[side].pop(0)
                if event is HALT:
                    come_to.append(HALT)
                    break
                waits[side] = event
        else:
            if waits == [None, None]:
                return come_to
            side = min((waits[side][0], side) for side in (0, 1) if waits[side] is not None)[1]
            come_to.append(waits[side])
            waits[side] = None


class Merged(SeveralCase):
    def test_rising_keys(self):
        one, other = [1, 4, 4, 9], [2, 3, 5, 10, 11]
        self.check(merged(listed(one), listed(other), lambda x: x), sorted(one + other))

    def test_keys_in_any_order(self):
        self.check(merged(listed([5, 1, 7]), listed([6, 0, 8]), lambda x: x), [5, 1, 6, 0, 7, 8])
        self.check(merged(listed([1, 2, 3]), listed([3, 2, 1]), lambda x: -x), [3, 2, 1, 2, 3, 1])

    def test_of_alike_keys_the_ones(self):
        for mark in (0, "", (), [], [0]):
            row = merged(listed(["a", "b"]), listed(["c", "d"]), lambda x: mark)
            self.check(row, ["a", "b", "c", "d"])

    def test_one_is_empty(self):
        self.check(merged(listed([]), listed([2, 1]), lambda x: x), [2, 1])
        self.check(merged(listed([2, 1]), listed([]), lambda x: x), [2, 1])
        self.check(merged(listed([]), listed([]), lambda x: x), [])

    def test_which_is_drawn_and_when_and_each_key_once(self):
        a1, a3, a4, b2, b3 = ("a", 1), ("a", 3), ("a", 4), ("b", 2), ("b", 3)
        wanted = [(a1, ["a", a1, "b", b2]), (b2, ["a", a3]), (a3, ["b", b3]), (b3, ["a", a4]), (a4, ["b"]), (OVER, "a")]
        self.check_calls(merge, [[a1, a3, a4], [b2, b3]], wanted)
        wanted = [(b2, ["a", "b", b2]), (b3, ["b", b3]), (OVER, "b")]
        self.check_calls(merge, [[], [b2, b3]], wanted)
        wanted = [(a1, ["a", a1, "b"]), (a3, ["a", a3]), (OVER, "a")]
        self.check_calls(merge, [[a1, a3], []], wanted)
        self.check_calls(merge, [[], []], [(OVER, "ab")])

    def test_a_row_refuses(self):
        a1, a3, b2, b4 = ("a", 1), ("a", 3), ("b", 2), ("b", 4)
        for no in refusals():
            wanted = [(no, "a"), (no, ["a", a1, "b"]), (a1, ["b", b2]), (no, "a"), (b2, ["a", a3]),
                      (no, "b"), (a3, ["b", b4]), (b4, "a"), (OVER, "b")]
            self.check_calls(merge, [[no, a1, no, a3], [no, b2, no, b4]], wanted)
            wanted = [(no, "ab"), (b2, ["b", b2]), (OVER, "b")]
            self.check_calls(merge, [[], [no, b2]], wanted)

    def test_a_key_is_refused(self):
        for no in refusals():
            key = Noting(lambda x: x, {0: no, 2: no, 4: no})
            one, other = Script(1, 3, 5), Script(2, 4, 6)
            made = merged(one, other, key)
            steps = [(no, 1, 0), (no, 2, 1), (3, 2, 2), (no, 3, 2), (4, 4, 2), (6, 4, 3), (OVER, 4, 4), (OVER, 4, 4)]
            for come_to, drawn_of_one, drawn_of_other in steps:
                self.assertEqual((outcome(made), one.draws, other.draws), (come_to, drawn_of_one, drawn_of_other))
            self.assertEqual(key.calls, [(1,), (3,), (2,), (4,), (5,), (6,)])

    def test_a_refused_key_behind_the_end_of_the_other(self):
        for no in refusals():
            key = Noting(lambda x: x, {0: no, 1: no})
            self.check(merged(listed([1, 2, 3]), listed([]), key), [no, no, 3])
            key = Noting(lambda x: x, {0: no, 2: no})
            self.check(merged(listed([]), listed([1, 2, 3]), key), [no, 2, no])

    def test_all_short_rows(self):
        events = [HALT, (1, "x"), (2, "x")]
        for one_size, other_size in itertools.product(range(4), repeat=2):
            for one in itertools.product(events, repeat=one_size):
                for other in itertools.product(events, repeat=other_size):
                    row = merged(Script(*one), Script(*other), lambda x: x[0])
                    self.check(row, model_of_merged(one, other))

    def test_keys_of_many_kinds(self):
        for one, other in ((1, 2), ("a", "b"), ((1, "a"), (1, "b")), ([1], [1, 0]), (b"a", b"b"), (-1, 10 ** 30)):
            self.check(merged(listed([other]), listed([one]), lambda x: x), [one, other])
            self.check(merged(listed([one]), listed([other]), lambda x: x), [one, other])

    def test_items_are_told_as_they_came(self):
        one, other = [2], [1]
        row = merged(listed([one]), listed([other]), lambda x: x)
        self.assertIs(row.draw(), other)
        self.assertIs(row.draw(), one)

    def test_a_key_that_its_work_changes_later(self):
        own = []

        def key(x):
            own.append(x)
            return own
        self.check(merged(listed([1, 2]), listed([3, 4]), key), [1, 3, 2, 4])

    def test_none_is_an_item_like_others(self):
        self.check(merged(listed([None, None]), listed([None]), lambda x: 0), [None, None, None])
        self.check(merged(listed([1, 2]), listed([5]), lambda x: (x > 3, x < 0)), [1, 2, 5])


class WithoutEnd(SeveralCase):
    def test_only_what_is_needed_is_drawn(self):
        self.assertEqual(outcomes(merged(counted(0, 2), counted(1, 2), lambda x: x), 5), [0, 1, 2, 3, 4])
        self.assertEqual(outcomes(in_turn([counted(0), listed([7]), counted(5)]), 6), [0, 7, 5, 1, 6, 2])
        self.assertEqual(outcomes(chained([listed([7]), counted(5), counted(0)]), 3), [7, 5, 6])

    def test_works_are_called_only_for_what_is_drawn(self):
        log = []
        one = mapped(counted(1), Noting(lambda x: x, log=log))
        other = mapped(counted(10), Noting(lambda x: x, log=log))
        for make in (lambda: pairs(one, other), lambda: chained([one, other]), lambda: in_turn([one, other]),
                     lambda: merged(one, other, lambda x: x)):
            make()
            self.assertEqual(log, [])


if __name__ == "__main__":
    unittest.main()
