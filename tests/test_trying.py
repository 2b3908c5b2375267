"""Point [9]: rows that are watched, tried again, tried otherwise and limited."""

import itertools
import unittest

from drawnworks.errors import BadCount, BadPlan, BadText, DrawError, Halt, NoMore, NoWork, Over, Tired
from drawnworks.rows import asked, counted, listed
from drawnworks.stages import mapped
from drawnworks.trying import again, instead, limited, watched
from tests.helping import OVER, Noting, RowCase, Script, outcome, outcomes, refusals

HALT = Halt("tea")


def other_refusals():
    """All that a row may refuse with besides Over and Halt."""
    return refusals()[1:] + [Tired(3), NoMore(2)]


class TryingCase(RowCase):
    def check_number(self, make):
        row = Script(1, 2)
        for number in (-1, -2, -(10 ** 9000)):
            with self.assertRaises(BadCount) as caught:
                make(row, number)
            self.assertIs(type(caught.exception), BadCount)
        self.assertEqual(row.draws, 0)
        self.assertEqual(outcomes(row, 3), [1, 2, OVER])

    def check_refusal(self, error, kind, value, wanted):
        """The error is of this kind and of none of the others, and has its value."""
        self.assertIs(type(error), kind)
        self.assertEqual(getattr(error, value), wanted)
        for other in (Over, Halt, Tired, NoMore, BadCount, BadPlan, NoWork, BadText):
            self.assertEqual(isinstance(error, other), other is kind)
        for above in (kind, DrawError, ValueError):
            with self.assertRaises(above):
                raise error


class Watched(TryingCase):
    def check_notes(self, events, wanted):
        """wanted is (what a draw comes to, what was drawn and noted), for each draw."""
        log = []
        row = watched(Script(*events, log=log), Noting(lambda word, x: None, log=log))
        self.assertEqual(log, [])
        for come_to, notes in wanted + [(OVER, [])] * 3:
            found = outcome(row)
            self.assertEqual(found, come_to)
            self.assertEqual(log, notes)
            log.clear()

    ASK = ("ask", None)
    LAST = (OVER, [ASK, "draw", ("over", None)])

    def test_items_and_over(self):
        self.check_notes([7, None], [
            (7, [self.ASK, "draw", ("item", 7)]), (None, [self.ASK, "draw", ("item", None)]), self.LAST])
        self.check_notes([], [self.LAST])

    def test_a_halt_with_its_why(self):
        for why in ("text", None, 0, [1], (1, 2)):
            no = Halt(why)
            self.check_notes([no, 5, no], [
                (no, [self.ASK, "draw", ("halt", why)]), (5, [self.ASK, "draw", ("item", 5)]),
                (no, [self.ASK, "draw", ("halt", why)]), self.LAST])

    def test_other_refusals(self):
        for no in other_refusals():
            self.check_notes([5, no, no, 6], [
                (5, [self.ASK, "draw", ("item", 5)]), (no, [self.ASK, "draw"]), (no, [self.ASK, "draw"]),
                (6, [self.ASK, "draw", ("item", 6)]), self.LAST])

    def test_the_very_refusal_and_the_very_why(self):
        why = [1]
        note = Noting(lambda word, x: None)
        no = Halt(why)
        self.check(watched(Script(no), note), [no])
        self.assertIs(note.calls[1][1], why)

    def test_items_are_told_as_they_came(self):
        item = [1]
        note = Noting(lambda word, x: None)
        self.assertIs(watched(listed([item]), note).draw(), item)
        self.assertIs(note.calls[1][1], item)

    def test_what_a_note_tells_is_nothing(self):
        for told in (True, False, 9, None):
            self.check(watched(listed([1, 2]), lambda word, x: told), [1, 2])

    def test_around_a_work(self):
        log = []
        row = mapped(counted(1), Noting(lambda x: x * 10, {1: HALT}, log=log))
        row = watched(row, Noting(lambda word, x: None, log=log))
        self.assertEqual(outcomes(row, 3), [10, HALT, 30])
        self.assertEqual(log, [("ask", None), (1,), ("item", 10), ("ask", None), (2,), ("halt", "tea"),
                               ("ask", None), (3,), ("item", 30)])


class Again(TryingCase):
    def check_tries(self, times, events, wanted):
        """wanted is (an item, OVER, an error or ("no more", tries), draws so far), for each draw."""
        row = Script(*events)
        made = again(row, times)
        self.assertEqual(row.draws, 0)
        for come_to, draws in wanted:
            found = outcome(made)
            if isinstance(come_to, tuple):
                self.check_refusal(found, NoMore, "tries", come_to[1])
            else:
                self.assertEqual(found, come_to)
            self.assertEqual(row.draws, draws)

    def test_fewer_times_than_is_let_by(self):
        self.check_tries(2, [HALT, 5, 6], [(5, 2), (6, 3), (OVER, 4), (OVER, 4)])

    def test_as_many_times_as_is_let_by(self):
        self.check_tries(2, [HALT, HALT, 5, 6], [(5, 3), (6, 4), (OVER, 5), (OVER, 5)])

    def test_more_often_and_what_comes_behind(self):
        self.check_tries(2, [HALT] * 3 + [5], [(("no more", 3), 3), (5, 4), (OVER, 5)])
        self.check_tries(2, [HALT] * 5 + [5], [(("no more", 3), 3), (5, 6), (OVER, 7)])
        self.check_tries(2, [HALT] * 6 + [5], [(("no more", 3), 3), (("no more", 3), 6), (5, 7), (OVER, 8)])
        self.check_tries(2, [HALT] * 4, [(("no more", 3), 3), (OVER, 5), (OVER, 5)])

    def test_no_times(self):
        self.check_tries(0, [5, HALT, HALT, 6], [
            (5, 1), (("no more", 1), 2), (("no more", 1), 3), (6, 4), (OVER, 5), (OVER, 5)])

    def test_one_time_if_nothing_is_said(self):
        row = again(Script(HALT, 5, HALT, HALT, 6))
        self.assertEqual(row.draw(), 5)
        self.check_refusal(outcome(row), NoMore, "tries", 2)
        self.check(row, [6])

    def test_anew_for_each_item(self):
        self.check_tries(1, [HALT, 5, HALT, 6, HALT, 7, HALT], [(5, 2), (6, 4), (7, 6), (OVER, 8), (OVER, 8)])

    def test_over_goes_through(self):
        self.check_tries(3, [HALT], [(OVER, 2), (OVER, 2)])
        self.check_tries(3, [], [(OVER, 1), (OVER, 1)])

    def test_other_refusals_go_through(self):
        for no in other_refusals():
            self.check_tries(2, [no, 5, HALT, no, HALT, HALT, 6], [(no, 1), (5, 2), (no, 4), (6, 7), (OVER, 8)])
            self.check(again(Script(no)), [no])

    def test_always_halting(self):
        for times in (0, 1, 2, 7, 300):
            work = Noting(lambda: None, {call: Halt(call) for call in range(1000)})
            row = again(asked(work), times)
            for draw in (1, 2, 3):
                self.check_refusal(outcome(row), NoMore, "tries", times + 1)
                self.assertEqual(len(work.calls), draw * (times + 1))

    def test_what_was_drawn_for_a_halt_is_gone(self):
        work = Noting(lambda x: x, {0: HALT, 2: HALT})
        self.check(again(mapped(listed([1, 2, 3, 4]), work)), [2, 4])
        self.assertEqual(work.calls, [(1,), (2,), (3,), (4,)])

    def test_items_are_told_as_they_came(self):
        item = [1]
        self.assertIs(again(Script(HALT, item)).draw(), item)

    def test_too_little(self):
        self.check_number(again)
        self.check(again(listed([1]), 0), [1])

    def test_all_short_rows(self):
        for size, times in itertools.product(range(8), range(3)):
            for events in itertools.product([1, HALT], repeat=size):
                row = again(Script(*events), times)
                tried = 0
                for event in events:
                    tried += 1
                    if event == 1:
                        self.assertEqual(row.draw(), 1)
                        tried = 0
                    elif tried > times:
                        self.check_refusal(outcome(row), NoMore, "tries", times + 1)
                        tried = 0
                self.check(row, [])


class Instead(TryingCase):
    def check_draws(self, events, others, wanted):
        """wanted is (what a draw comes to, which rows were drawn), for each draw."""
        log = []
        row, other = Script(*events, log=log, name="a"), Script(*others, log=log, name="b")
        made = instead(row, other)
        for come_to, draws in wanted + [(OVER, "")] * 3:
            self.assertEqual((outcome(made), "".join(log)), (come_to, draws))
            log.clear()

    def test_a_halt_at_the_first_item(self):
        self.check_draws([HALT, 1], [5, 6], [(5, "ab"), (6, "b"), (OVER, "b")])

    def test_a_halt_at_a_later_item(self):
        self.check_draws([1, 2, HALT, 3], [5, 6], [(1, "a"), (2, "a"), (5, "ab"), (6, "b"), (OVER, "b")])

    def test_no_halt(self):
        self.check_draws([1, 2], [5], [(1, "a"), (2, "a"), (OVER, "a")])
        self.check_draws([], [5], [(OVER, "a")])

    def test_the_other_is_empty(self):
        self.check_draws([1, HALT, 2], [], [(1, "a"), (OVER, "ab")])

    def test_the_other_refuses(self):
        for no in refusals() + other_refusals():
            wanted = [(no, "ab"), (5, "b"), (no, "b"), (6, "b"), (OVER, "b")]
            self.check_draws([HALT, 1], [no, 5, no, 6], wanted)

    def test_other_refusals_do_not_lead_to_it(self):
        for no in other_refusals():
            wanted = [(no, "a"), (1, "a"), (no, "a"), (5, "ab"), (OVER, "b")]
            self.check_draws([no, 1, no, HALT, 2], [5], wanted)
            self.check_draws([no], [5], [(no, "a"), (OVER, "a")])

    def test_the_refusal_comes_out_as_it_is(self):
        for no in refusals():
            self.check(instead(Script(HALT), Script(no)), [no])

    def test_items_are_told_as_they_came(self):
        item, another = [1], [2]
        row = instead(Script(item, HALT), Script(another))
        self.assertIs(row.draw(), item)
        self.assertIs(row.draw(), another)


class Limited(TryingCase):
    def check_limit(self, most, events, wanted):
        """wanted is (an item, OVER, an error or "tired", draws so far), for each draw."""
        row = Script(*events)
        made = limited(row, most)
        self.assertEqual(row.draws, 0)
        for come_to, draws in wanted:
            found = outcome(made)
            if come_to == "tired":
                self.check_refusal(found, Tired, "most", most)
            else:
                self.assertEqual(found, come_to)
            self.assertEqual(row.draws, draws)

    def test_not_at_all(self):
        self.check_limit(0, [1, 2], [("tired", 0), ("tired", 0), ("tired", 0)])
        self.check_limit(0, [], [("tired", 0), ("tired", 0)])

    def test_fewer_than_there_are(self):
        self.check_limit(2, [1, 2, 3], [(1, 1), (2, 2), ("tired", 2), ("tired", 2), ("tired", 2)])

    def test_as_many_as_there_are(self):
        self.check_limit(2, [1, 2], [(1, 1), (2, 2), ("tired", 2), ("tired", 2), ("tired", 2)])

    def test_the_draw_that_finds_it_over_counts(self):
        self.check_limit(3, [1, 2], [(1, 1), (2, 2), (OVER, 3), (OVER, 3), (OVER, 3)])
        self.check_limit(1, [], [(OVER, 1), (OVER, 1), (OVER, 1)])

    def test_more_than_there_are(self):
        self.check_limit(9, [1, 2], [(1, 1), (2, 2)] + [(OVER, 3)] * 9)

    def test_refused_draws_count(self):
        for no in refusals():
            self.check_limit(3, [no, 1, no, 2], [(no, 1), (1, 2), (no, 3), ("tired", 3), ("tired", 3)])
            self.check_limit(4, [no, 1, no], [(no, 1), (1, 2), (no, 3), (OVER, 4), (OVER, 4)])
            self.check_limit(1, [no, 1], [(no, 1), ("tired", 1)])

    def test_a_great_number(self):
        self.check(limited(listed([1]), 10 ** 9000), [1])

    def test_items_are_told_as_they_came(self):
        item = [1]
        self.assertIs(limited(listed([item]), 1).draw(), item)

    def test_too_little(self):
        self.check_number(limited)


if __name__ == "__main__":
    unittest.main()
