"""Points [7] and [8]: rows that are split, and items that are kept."""

import itertools
import unittest

from drawnworks.errors import BadCount, BadPlan, BadText, DrawError, Halt, NoMore, NoWork, Over, Tired
from drawnworks.rows import counted, listed
from drawnworks.sharing import Memory, split
from drawnworks.stages import mapped
from tests.helping import OVER, Noting, RowCase, Script, outcome, outcomes, refusals

OTHERS = (Over, Halt, Tired, NoMore, BadPlan, NoWork, BadText)
HALT = Halt("tea")


class SharingCase(RowCase):
    def refused_as_bad_count(self, action):
        with self.assertRaises(BadCount) as caught:
            action()
        self.assertIsInstance(caught.exception, DrawError)
        self.assertIsInstance(caught.exception, ValueError)
        self.assertNotIsInstance(caught.exception, OTHERS)


class Split(SharingCase):
    def test_each_tells_all_items(self):
        for many in range(1, 10):
            row = Script(1, 2, 3)
            rows = split(row, many)
            self.assertIs(type(rows), list)
            self.assertEqual((len(rows), row.draws), (many, 0))
            for one in rows:
                self.check(one, [1, 2, 3])
            self.assertEqual(row.draws, 4)

    def test_two_if_nothing_is_said(self):
        one, other = split(listed([1, 2]))
        self.check(other, [1, 2])
        self.check(one, [1, 2])

    def test_of_an_empty_row(self):
        row = Script()
        for one in split(row, 3):
            self.check(one, [])
        self.assertEqual(row.draws, 1)

    def test_how_many(self):
        row = Script(1, 2)
        for many in (0, -1, 10, 11, 10 ** 9000, -(10 ** 9000)):
            self.refused_as_bad_count(lambda: split(row, many))
        self.assertEqual(row.draws, 0)
        self.assertEqual(outcomes(row, 3), [1, 2, OVER])

    def test_which_draws_and_which_takes_what_waits(self):
        row = Script("a", "b", "c", "d")
        rows = split(row, 3)
        steps = [(0, "a", 1), (0, "b", 2), (1, "a", 2), (1, "b", 2), (1, "c", 3), (2, "a", 3), (0, "c", 3),
                 (0, "d", 4), (0, OVER, 5), (0, OVER, 5), (2, "b", 5), (2, "c", 5), (2, "d", 5), (2, OVER, 5),
                 (1, "d", 5), (1, OVER, 5), (2, OVER, 5)]
        for at, come_to, draws in steps:
            self.assertEqual((outcome(rows[at]), row.draws), (come_to, draws))

    def test_draws_in_any_order(self):
        for order in itertools.product(range(3), repeat=7):
            row = Script(0, 1, 2, 3)
            rows = split(row, 3)
            told = [0, 0, 0]
            furthest = 0
            for at in order:
                wanted = told[at] if told[at] < 4 else OVER
                self.assertEqual(outcome(rows[at]), wanted)
                told[at] += 1
                furthest = max(furthest, min(told[at], 5))
                self.assertEqual(row.draws, furthest)

    def test_a_refusal_comes_to_the_one_that_is_drawn_alone(self):
        for no in refusals():
            row = Script(1, no, 2, no)
            one, two, three = split(row, 3)
            steps = [(one, 1, 1), (one, no, 2), (two, 1, 2), (two, 2, 3), (one, 2, 3), (two, no, 4), (one, OVER, 5),
                     (three, 1, 5), (three, 2, 5), (three, OVER, 5), (two, OVER, 5), (two, OVER, 5), (one, OVER, 5)]
            for drawn, come_to, draws in steps:
                self.assertEqual((outcome(drawn), row.draws), (come_to, draws))

    def test_a_refusal_of_a_work_within(self):
        for no in refusals():
            work = Noting(lambda x: x * 2, {0: no, 2: no})
            one, other = split(mapped(listed([1, 2, 3, 4]), work))
            self.assertEqual(work.calls, [])
            self.assertIs(outcome(one), no)
            self.check(other, [4, no, 8])
            self.check(one, [4, 8])
            self.assertEqual(work.calls, [(1,), (2,), (3,), (4,)])

    def test_items_are_told_as_they_came(self):
        item = [1]
        one, other = split(listed([item]))
        self.assertIs(one.draw(), item)
        item.append(2)
        self.assertIs(other.draw(), item)

    def test_the_list_that_is_told_may_be_changed(self):
        rows = split(listed([1, 2]), 3)
        one, two, three = rows
        rows.clear()
        self.assertEqual(one.draw(), 1)
        self.check(three, [1, 2])
        self.check(two, [1, 2])
        self.check(one, [2])

    def test_nothing_and_nought_wait_like_others(self):
        one, other = split(listed([None, 0, "", [], False]))
        self.check(one, [None, 0, "", [], False])
        self.check(other, [None, 0, "", [], False])

    def test_many_items_wait(self):
        one, other = split(counted(0, 1, 60000))
        self.check(one, list(range(60000)))
        self.check(other, list(range(60000)))

    def test_split_again(self):
        row = Script(1, 2)
        one, other = split(row)
        three, four = split(other)
        self.check(four, [1, 2])
        self.check(one, [1, 2])
        self.check(three, [1, 2])
        self.assertEqual(row.draws, 3)


def asked_of(memory, number):
    """What item comes to: the item, OVER, or the very error."""
    try:
        return memory.item(number)
    except Over:
        return OVER
    except Exception as error:
        return error


class MemoryItem(SharingCase):
    def check_steps(self, row, steps):
        """Each step is (number, what item comes to, how often the row was drawn, drawn())."""
        memory = Memory(row)
        self.assertEqual((row.draws, memory.drawn()), (0, 0))
        for number, come_to, draws, drawn in steps:
            self.assertEqual((asked_of(memory, number), row.draws, memory.drawn()), (come_to, draws, drawn))

    def test_in_any_order_and_again(self):
        self.check_steps(Script("a", "b", "c", "d"), [
            (1, "b", 2, 2), (0, "a", 2, 2), (1, "b", 2, 2), (3, "d", 4, 4), (2, "c", 4, 4), (0, "a", 4, 4)])

    def test_beyond_the_last(self):
        self.check_steps(Script("a", "b"), [
            (5, OVER, 3, 2), (5, OVER, 3, 2), (2, OVER, 3, 2), (1, "b", 3, 2), (10 ** 30, OVER, 3, 2), (0, "a", 3, 2)])
        self.check_steps(Script(), [(0, OVER, 1, 0), (0, OVER, 1, 0)])

    def test_beyond_the_last_just_behind_it(self):
        self.check_steps(Script("a"), [(0, "a", 1, 1), (1, OVER, 2, 1), (1, OVER, 2, 1), (0, "a", 2, 1)])

    def test_a_refusal_in_the_middle(self):
        for no in refusals():
            self.check_steps(Script("a", no, "b", no, no, "c"), [
                (2, no, 2, 1), (0, "a", 2, 1), (2, no, 4, 2), (1, "b", 4, 2), (2, no, 5, 2), (2, "c", 6, 3),
                (2, "c", 6, 3), (3, OVER, 7, 3)])
            self.check_steps(Script(no, "a"), [(0, no, 1, 0), (0, "a", 2, 1)])

    def test_a_number_below_nought(self):
        row = Script(1, 2)
        memory = Memory(row)
        for number in (-1, -2, -(10 ** 9000)):
            self.refused_as_bad_count(lambda: memory.item(number))
        self.assertEqual((row.draws, memory.drawn()), (0, 0))
        memory.item(1)
        self.refused_as_bad_count(lambda: memory.item(-1))
        self.assertEqual((row.draws, memory.drawn()), (2, 2))
        self.assertEqual([memory.item(0), memory.item(1)], [1, 2])

    def test_each_work_is_called_once(self):
        work = Noting(lambda x: [x])
        memory = Memory(mapped(counted(0), work))
        self.assertEqual(work.calls, [])
        self.assertIs(memory.item(2), memory.item(2))
        memory.item(1)
        self.assertEqual(work.calls, [(0,), (1,), (2,)])

    def test_items_are_told_as_they_came(self):
        item = [1]
        memory = Memory(listed([item]))
        self.assertIs(memory.item(0), item)
        self.assertIs(memory.replay().draw(), item)

    def test_nothing_is_kept_like_others(self):
        row = Script(None, False)
        memory = Memory(row)
        self.assertEqual([memory.item(0), memory.item(0), memory.item(1), memory.drawn()], [None, None, False, 2])
        self.assertEqual(row.draws, 2)

    def test_two_memories_keep_for_themselves(self):
        one, other = Memory(listed([1])), Memory(listed([2]))
        self.assertEqual((one.item(0), other.drawn(), other.item(0)), (1, 0, 2))

    def test_the_methods_stand_in_the_class_itself(self):
        for name in ("item", "drawn", "replay"):
            self.assertIn(name, vars(Memory))


class MemoryReplay(SharingCase):
    def test_all_items_from_the_first_on(self):
        row = Script(1, 2, 3)
        memory = Memory(row)
        early = memory.replay()
        self.assertEqual(row.draws, 0)
        memory.item(1)
        late = memory.replay()
        self.assertEqual(row.draws, 2)
        self.check(late, [1, 2, 3])
        self.check(early, [1, 2, 3])
        self.check(memory.replay(), [1, 2, 3])
        self.assertEqual((row.draws, memory.drawn()), (4, 3))

    def test_several_at_once_mixed_with_item(self):
        row = Script("a", "b", "c", "d")
        memory = Memory(row)
        one, other = memory.replay(), memory.replay()
        steps = [(one, "a", 1), (one, "b", 2), (other, "a", 2), (memory, "c", 3), (other, "b", 3), (other, "c", 3),
                 (other, "d", 4), (one, "c", 4), (other, OVER, 5), (one, "d", 4), (one, OVER, 5), (other, OVER, 5)]
        draws = 0
        for drawn, come_to, far in steps:
            found = asked_of(memory, 2) if drawn is memory else outcome(drawn)
            draws = max(draws, far)
            self.assertEqual((found, row.draws, memory.drawn()), (come_to, draws, min(draws, 4)))

    def test_of_an_empty_row(self):
        row = Script()
        memory = Memory(row)
        self.check(memory.replay(), [])
        self.check(memory.replay(), [])
        self.assertEqual((row.draws, memory.drawn()), (1, 0))

    def test_refusals(self):
        for no in refusals():
            row = Script(1, no, 2, no)
            memory = Memory(row)
            one, other = memory.replay(), memory.replay()
            self.assertEqual(outcomes(one, 2), [1, no])
            self.assertEqual(outcomes(other, 3), [1, 2, no])
            self.assertEqual(memory.drawn(), 2)
            self.check(one, [2])
            self.check(other, [])
            self.assertEqual(row.draws, 5)

    def test_a_refusal_comes_to_item_alone(self):
        for no in refusals():
            memory = Memory(Script(1, no, 2))
            row = memory.replay()
            self.assertEqual([outcome(row), asked_of(memory, 1)], [1, no])
            self.check(row, [2])

    def test_any_draws_of_two_replays_and_items(self):
        for order in itertools.product(range(4), repeat=6):
            memory = Memory(Script(0, 1, 2, 3))
            rows, told = [memory.replay(), memory.replay()], [0, 0]
            for what in order:
                if what < 2:
                    self.assertEqual(outcome(rows[what]), told[what] if told[what] < 4 else OVER)
                    told[what] += 1
                else:
                    self.assertEqual(memory.item(what - 1), what - 1)


if __name__ == "__main__":
    unittest.main()
