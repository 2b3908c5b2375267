"""Points [2], [3] and [5]: refusals within a row, and how it goes on behind them."""

import itertools
import unittest

from drawnworks.errors import Halt
from drawnworks.stages import (flat, kept, mapped, numbered, once, parcels, past, runs, scanned, skipped, taken,
                               until, windows)
from tests.helping import Noting, RowCase, Script, outcome, outcomes, refusals

HALT = Halt("tea")


class OfTheRow(RowCase):
    """The row within refuses, and goes on."""

    def test_all_rows_of_one(self):
        for no in refusals():
            self.check(mapped(Script(1, no, 2), lambda x: x + 5), [6, no, 7])
            self.check(kept(Script(no, 1, no, 2), lambda x: x > 1), [no, no, 2])
            self.check(taken(Script(1, no, no, 2, 3), 2), [1, no, no, 2])
            self.check(until(Script(1, no, 2, 9, 1), lambda x: x < 5), [1, no, 2])
            self.check(past(Script(1, no, 2, 9, no, 1), lambda x: x < 5), [no, 9, no, 1])
            self.check(numbered(Script("a", no, no, "b"), 4), [(4, "a"), no, no, (5, "b")])
            self.check(flat(Script([1, 2], no, [3], [], no, [4])), [1, 2, no, 3, no, 4])
            self.check(scanned(Script(1, no, 2), lambda last, x: last + x, 10), [10, 11, no, 13])
            self.check(once(Script(1, no, 1, no, 2)), [1, no, no, 2])

    def test_why_is_told(self):
        for why in (None, 0, "text", [1], 10 ** 9000):
            self.assertIs(outcome(taken(Script(Halt(why)), 1)).why, why)

    def test_refused_through_several_rows(self):
        for no in refusals():
            row = mapped(kept(numbered(Script(no, 5)), lambda pair: True), lambda pair: pair)
            self.check(row, [no, (0, 5)])

    def test_skipped_draws_those_that_are_lacking_yet(self):
        for no in refusals():
            self.check(skipped(Script(1, no, 2, no, 3, 4, no, 5), 3), [no, no, 4, no, 5])
            self.check(skipped(Script(no, 1, 2), 1), [no, 2])
            self.check(skipped(Script(1, no, 2), 1), [no, 2])
            self.check(skipped(Script(no, no, 2), 0), [no, no, 2])
            row = Script(1, no, 2, 3, 4)
            made = skipped(row, 3)
            self.assertEqual([outcome(made), row.draws], [no, 2])
            self.assertEqual([outcome(made), row.draws], [4, 5])

    def test_parcels_wait(self):
        for no in refusals():
            self.check(parcels(Script(1, no, 2, 3, no, no, 4, 5, no), 2), [no, [1, 2], no, no, [3, 4], no, [5]])
            self.check(parcels(Script(1, no), 3), [no, [1]])
            self.check(parcels(Script(no), 3), [no])

    def test_windows_wait(self):
        for no in refusals():
            self.check(windows(Script(1, no, 2, 3, no, no, 4, no), 2), [no, [1, 2], [2, 3], no, no, [3, 4], no])
            self.check(windows(Script(1, 2, no, 3, no, 4), 3), [no, [1, 2, 3], no, [2, 3, 4]])
            self.check(windows(Script(no, 1, no, 2), 1), [no, [1], no, [2]])

    def test_runs_wait(self):
        for no in refusals():
            self.check(runs(Script(1, no, 1, 2, no, 2, no, 3, no)), [no, [1, 1], no, no, [2, 2], no, [3]])
            self.check(runs(Script(no, 1)), [no, [1]])
            self.check(runs(Script(1, no)), [no, [1]])


class OfAWork(RowCase):
    """A work refuses: what was drawn for the item is gone, and the row goes on."""

    def test_mapped(self):
        for no in refusals():
            work = Noting(lambda x: x * 2, {0: no, 2: no})
            self.check(mapped(Script(1, 2, 3, 4), work), [no, 4, no, 8])
            self.assertEqual(work.calls, [(1,), (2,), (3,), (4,)])

    def test_kept(self):
        for no in refusals():
            test = Noting(lambda x: x != 2, {2: no})
            self.check(kept(Script(1, 2, 3, 4), test), [1, no, 4])
            self.assertEqual(test.calls, [(1,), (2,), (3,), (4,)])

    def test_taken_counts_what_is_told(self):
        for no in refusals():
            row = Script(1, 2, 3, 4)
            self.check(taken(mapped(row, Noting(lambda x: x, {0: no, 1: no})), 1), [no, no, 3])
            self.assertEqual(row.draws, 3)

    def test_until(self):
        for no in refusals():
            test = Noting(lambda x: x < 3, {1: no})
            self.check(until(Script(1, 2, 0, 3, 0), test), [1, no, 0])
            self.assertEqual(test.calls, [(1,), (2,), (0,), (3,)])

    def test_past(self):
        for no in refusals():
            test = Noting(lambda x: x < 3, {0: no, 2: no})
            self.check(past(Script(8, 1, 9, 2, 5, 0), test), [no, no, 5, 0])
            self.assertEqual(test.calls, [(8,), (1,), (9,), (2,), (5,)])

    def test_scanned(self):
        for no in refusals():
            work = Noting(lambda last, x: last + x, {0: no, 2: no})
            self.check(scanned(Script(1, 2, 4, 8), work, 100), [100, no, 102, no, 110])
            self.assertEqual(work.calls, [(100, 1), (100, 2), (102, 4), (102, 8)])

    def test_once(self):
        for no in refusals():
            key = Noting(lambda x: x, {0: no, 3: no})
            self.check(once(Script(1, 1, 2, 3, 1, 3), key), [no, 1, 2, no, 3])
            self.assertEqual(key.calls, [(1,), (1,), (2,), (3,), (1,), (3,)])

    def test_runs_an_x_whose_key_is_refused_is_gone(self):
        for no in refusals():
            key = Noting(lambda x: x, {1: no})
            self.check(runs(Script(1, 9, 1, 2), key), [no, [1, 1], [2]])
            self.assertEqual(key.calls, [(1,), (9,), (1,), (2,)])
            self.check(runs(Script(1, 2), Noting(lambda x: x, {0: no})), [no, [2]])
            self.check(runs(Script(1, 2), Noting(lambda x: x, {1: no})), [no, [1]])
            self.check(runs(Script(1), Noting(lambda x: x, {0: no})), [no])
            self.check(runs(Script(1, 2, 2, 2, 3), Noting(lambda x: x, {2: no, 3: no})), [[1], no, no, [2], [3]])

    def test_parcels_windows_and_flat_around_a_work_that_refuses(self):
        for no in refusals():
            def around(items):
                return mapped(Script(*items), Noting(lambda x: x, {1: no}))
            self.check(parcels(around([1, 2, 3, 4]), 2), [no, [1, 3], [4]])
            self.check(windows(around([1, 2, 3, 4]), 2), [no, [1, 3], [3, 4]])
            self.check(flat(around([[1], [2], [3]])), [1, no, 3])


def model_of_parcels(events, many):
    """What parcels tells of a row, worked out from all of its events at once."""
    told, waiting = [], []
    for event in events:
        if event is HALT:
            told.append(HALT)
            continue
        waiting.append(event)
        if len(waiting) == many:
            told.append(waiting)
            waiting = []
    return told + ([waiting] if waiting else [])


def model_of_windows(events, many):
    told, items = [], []
    for event in events:
        if event is HALT:
            told.append(HALT)
            continue
        items.append(event)
        if len(items) >= many:
            told.append(items[len(items) - many:])
    return told


def model_of_runs(events):
    told, run = [], []
    for event in events:
        if event is HALT:
            told.append(HALT)
            continue
        if run and run[0] != event:
            told.append(run)
            run = []
        run = run + [event]
    return told + ([run] if run else [])


def model_of_skipped(events, many):
    told, gone = [], 0
    for event in events:
        if event is not HALT and gone < many:
            gone += 1
        else:
            told.append(event)
    return told


class AllShortRows(RowCase):
    """Each row of at most six events, two items and a refusal, against a model."""

    def each(self):
        for size in range(7):
            yield from itertools.product([1, 2, HALT], repeat=size)

    def test_against_models(self):
        for events in self.each():
            for many in (1, 2, 3):
                self.check(parcels(Script(*events), many), model_of_parcels(events, many))
                self.check(windows(Script(*events), many), model_of_windows(events, many))
                self.check(skipped(Script(*events), many), model_of_skipped(events, many))
            self.check(runs(Script(*events)), model_of_runs(events))

    def test_each_is_drawn_just_once(self):
        for events in self.each():
            for make in (lambda row: parcels(row, 2), lambda row: windows(row, 2), runs, once, numbered):
                row = Script(*events)
                outcomes(make(row), 9)
                self.assertEqual(row.draws, len(events) + 1)


if __name__ == "__main__":
    unittest.main()
