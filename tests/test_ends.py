"""Point [10]: what all items of a row come to."""

import unittest

from drawnworks.ends import all_so, any_so, count, each, everything, first, fold, least, parted, tally
from drawnworks.errors import BadCount, BadPlan, BadText, DrawError, Halt, NoMore, NoWork, Over, Tired
from drawnworks.rows import asked, counted, listed
from drawnworks.stages import mapped, taken
from drawnworks.trying import limited
from tests.helping import OVER, Noting, Script, come_of, refusals

HALT = Halt("tea")
# Each with what comes of no items, and whether it calls a work.
ENDS = {
    "fold": (lambda row, work: fold(row, work, "begin"), "begin", True),
    "everything": (lambda row, work: everything(row), [], False),
    "each": (lambda row, work: each(row, work), 0, True),
    "count": (lambda row, work: count(row), 0, False),
    "first": (lambda row, work: first(row, work, "other"), "other", True),
    "first of any": (lambda row, work: first(row, None, "other"), "other", False),
    "any_so": (lambda row, work: any_so(row, work), False, True),
    "all_so": (lambda row, work: all_so(row, work), True, True),
    "least": (lambda row, work: least(row, work), OVER, True),
    "least without a key": (lambda row, work: least(row), OVER, False),
    "tally": (lambda row, work: tally(row, work), [], True),
    "tally without a key": (lambda row, work: tally(row), [], False),
    "parted": (lambda row, work: parted(row, work), ([], []), True),
}
# What a work tells so that the end draws to the row's last item.
ANSWERS = {"fold": 0, "each": None, "first": False, "any_so": False, "all_so": True, "least": 5, "tally": 5,
           "parted": True}


class EndCase(unittest.TestCase):
    def check(self, end, row, wanted, draws):
        """The end comes to this, and to nothing else in kind; the row was drawn so often."""
        found = come_of(end, row)
        self.assertEqual((found, row.draws), (wanted, draws))
        self.assertIs(type(found), type(wanted))

    def check_calls(self, end, items, work, wanted, calls):
        """Each item is drawn, then the work is called with it, and so on; last comes Over."""
        log = []
        noting = Noting(work, log=log)
        self.assertEqual(come_of(lambda row: end(row, noting), Script(*items, log=log)), wanted)
        self.assertEqual(log, calls)


class AllEnds(EndCase):
    def test_no_items(self):
        for name, (end, nothing, _) in ENDS.items():
            work = Noting(lambda *things: True)
            self.check(lambda row: end(row, work), Script(), nothing, 1)
            self.assertEqual(work.calls, [], name)

    def test_a_row_that_is_over(self):
        for name, (end, nothing, _) in ENDS.items():
            work = Noting(lambda *things: True)
            script = Script(7)
            row = taken(script, 1)
            row.draw()
            for _ in range(3):
                found = come_of(lambda row: end(row, work), row)
                self.assertEqual(found, nothing, name)
            self.assertEqual((script.draws, work.calls), (1, []), name)

    def test_a_row_whose_work_told_none_is_not_asked_again(self):
        for name, (end, nothing, _) in ENDS.items():
            answers = [None, 1, None, 2]
            row = asked(lambda: answers.pop(0))
            for _ in range(3):
                self.assertEqual(come_of(lambda row: end(row, lambda *things: True), row), nothing, name)
            self.assertEqual(answers, [1, None, 2], name)

    def test_the_row_refuses_and_a_further_end_goes_on_behind(self):
        for name, (end, _, _) in ENDS.items():
            if name == "first of any":
                continue
            for no in refusals() + [Tired(3), NoMore(2)]:
                work = Noting(lambda *things: ANSWERS[name])
                script = Script(1, 2, no, 3, no, 4)
                self.assertIs(come_of(lambda row: end(row, work), script), no, name)
                self.assertEqual((script.draws, len(work.calls)), (3, 2 * (name in ANSWERS)), name)
                self.assertEqual(come_of(everything, script), no)
                self.assertEqual(script.draws, 5)
                self.assertEqual(come_of(everything, script), [4])

    def test_the_first_draw_is_refused(self):
        for name, (end, _, _) in ENDS.items():
            for no in refusals():
                work = Noting(lambda *things: True)
                script = Script(no, 1)
                self.assertIs(come_of(lambda row: end(row, work), script), no, name)
                self.assertEqual((script.draws, work.calls), (1, []), name)

    def test_the_work_refuses_and_a_further_end_goes_on_behind(self):
        for name in ANSWERS:
            end = ENDS[name][0]
            for no in refusals():
                work = Noting(lambda *things: ANSWERS[name], {1: no})
                script = Script(1, 2, 3, 4)
                self.assertIs(come_of(lambda row: end(row, work), script), no, name)
                self.assertEqual((script.draws, len(work.calls)), (2, 2), name)
                self.assertEqual(come_of(everything, script), [3, 4], name)

    def test_the_work_refuses_the_first(self):
        for name in ANSWERS:
            for no in refusals():
                work = Noting(lambda *things: ANSWERS[name], {0: no})
                script = Script(1, 2)
                self.assertIs(come_of(lambda row: ENDS[name][0](row, work), script), no, name)
                self.assertEqual((script.draws, len(work.calls)), (1, 1), name)

    def test_the_work_refuses_the_last(self):
        for name in ANSWERS:
            for no in refusals():
                work = Noting(lambda *things: ANSWERS[name], {2: no})
                self.assertIs(come_of(lambda row: ENDS[name][0](row, work), Script(1, 2, 3)), no, name)

    def test_tired_of_drawing(self):
        for name, (end, _, _) in ENDS.items():
            if name != "first of any":
                found = come_of(lambda row: end(row, lambda *things: ANSWERS[name]), limited(counted(1), 3))
                self.assertIsInstance(found, Tired)


class Fold(EndCase):
    def test_one_and_many(self):
        self.check(lambda row: fold(row, lambda so_far, x: so_far * 10 + x, 7), Script(1), 71, 2)
        self.check(lambda row: fold(row, lambda so_far, x: so_far * 10 + x, 7), Script(1, 2, 3), 7123, 4)

    def test_begin_left_out(self):
        self.check(lambda row: fold(row, lambda so_far, x: so_far + x), Script(4, 5), 9, 3)
        self.check(lambda row: fold(row, lambda so_far, x: so_far + x), Script(), 0, 1)

    def test_begin_with_no_items(self):
        begin = [1]
        self.assertIs(fold(listed([]), lambda so_far, x: x, begin), begin)

    def test_what_the_work_is_handed(self):
        self.check_calls(lambda row, work: fold(row, work, "s"), ["a", "b"], lambda so_far, x: so_far + x, "sab",
                         ["draw", ("s", "a"), "draw", ("sa", "b"), "draw"])

    def test_what_the_work_tells_is_taken_as_it_is(self):
        own = [1]
        self.assertIs(fold(listed([1, 2]), lambda so_far, x: own), own)
        self.assertIsNone(fold(listed([1]), lambda so_far, x: None, 5))

    def test_begin_is_not_changed(self):
        begin = [1]
        self.assertEqual(fold(listed([2, 3]), lambda so_far, x: so_far + [x], begin), [1, 2, 3])
        self.assertEqual(begin, [1])


class Everything(EndCase):
    def test_one_and_many(self):
        self.check(everything, Script(5), [5], 2)
        self.check(everything, Script(5, None, 5, [1]), [5, None, 5, [1]], 5)

    def test_the_very_items(self):
        item = [1]
        self.assertIs(everything(listed([item]))[0], item)

    def test_the_list_may_be_changed(self):
        items = [1, 2]
        told = everything(listed(items))
        told.append(3)
        self.assertEqual(items, [1, 2])
        row = listed([])
        everything(row).append(1)
        self.assertEqual(everything(row), [])

    def test_many_items(self):
        self.assertEqual(everything(counted(0, 1, 50000)), list(range(50000)))


class Each(EndCase):
    def test_how_many(self):
        self.check(lambda row: each(row, str), Script(4), 1, 2)
        self.check(lambda row: each(row, str), Script(4, 5, 6), 3, 4)

    def test_what_the_work_tells_is_nothing(self):
        for told in (True, False, None, 9):
            self.assertEqual(each(listed([1, 2]), lambda x: told), 2)

    def test_calls(self):
        item = [1]
        calls = ["draw", (7,), "draw", (item,), "draw", (7,), "draw"]
        self.check_calls(each, [7, item, 7], lambda x: None, 3, calls)
        work = Noting(lambda x: None)
        each(listed([item]), work)
        self.assertIs(work.calls[0][0], item)


class Count(EndCase):
    def test_one_and_many(self):
        self.check(count, Script(None), 1, 2)
        self.check(count, Script(0, 0, 0, 0), 4, 5)
        self.assertEqual(count(counted(0, 1, 50000)), 50000)

    def test_works_within_are_called(self):
        work = Noting(lambda x: x)
        self.assertEqual(count(mapped(listed([1, 2]), work)), 2)
        self.assertEqual(work.calls, [(1,), (2,)])


def is_even(x):
    return x % 2 == 0


class First(EndCase):
    def test_of_any(self):
        self.check(first, Script(5, 6), 5, 1)
        self.check(first, Script(None, 6), None, 1)
        self.check(first, Script(0, 6), 0, 1)

    def test_true_of_the_first_of_a_later_one_and_of_none(self):
        self.check(lambda row: first(row, is_even), Script(2, 4, 6), 2, 1)
        self.check(lambda row: first(row, is_even), Script(1, 3, 6, 8), 6, 3)
        self.check(lambda row: first(row, is_even), Script(1, 3), None, 3)
        self.check(lambda row: first(row, is_even, 99), Script(1, 3), 99, 3)

    def test_other(self):
        other = [1]
        self.assertIs(first(listed([]), None, other), other)
        self.assertIs(first(listed([1]), is_even, other), other)
        self.assertIsNone(first(listed([])))
        self.assertEqual(first(listed([2]), is_even, other), 2)

    def test_calls(self):
        calls = ["draw", (1,), "draw", (4,)]
        self.check_calls(first, [1, 4, 6], is_even, 4, calls)

    def test_the_row_goes_on_behind_it(self):
        row = listed([1, 2, 3, 4, 5])
        self.assertEqual([first(row, is_even), first(row, is_even), first(row), first(row)], [2, 4, 5, None])

    def test_the_very_item(self):
        item = [1]
        self.assertIs(first(listed([item])), item)
        self.assertIs(first(listed([item]), lambda x: True), item)

    def test_of_a_row_without_end(self):
        self.assertEqual(first(counted(1), lambda x: x * x > 50), 8)


class AnySoAndAllSo(EndCase):
    def test_any_so(self):
        self.check(lambda row: any_so(row, is_even), Script(2), True, 1)
        self.check(lambda row: any_so(row, is_even), Script(1), False, 2)
        self.check(lambda row: any_so(row, is_even), Script(1, 3, 4, 5), True, 3)
        self.check(lambda row: any_so(row, is_even), Script(1, 3, 5), False, 4)

    def test_all_so(self):
        self.check(lambda row: all_so(row, is_even), Script(2), True, 2)
        self.check(lambda row: all_so(row, is_even), Script(1), False, 1)
        self.check(lambda row: all_so(row, is_even), Script(2, 4, 5, 6), False, 3)
        self.check(lambda row: all_so(row, is_even), Script(2, 4, 6), True, 4)

    def test_calls(self):
        self.check_calls(any_so, [1, 2, 3], is_even, True, ["draw", (1,), "draw", (2,)])
        self.check_calls(all_so, [2, 1, 3], is_even, False, ["draw", (2,), "draw", (1,)])
        self.check_calls(any_so, [1, 3], is_even, False, ["draw", (1,), "draw", (3,), "draw"])
        self.check_calls(all_so, [2, 4], is_even, True, ["draw", (2,), "draw", (4,), "draw"])

    def test_of_a_row_without_end(self):
        row = counted(1)
        self.assertTrue(any_so(row, lambda x: x > 3))
        self.assertFalse(all_so(row, lambda x: x < 8))
        self.assertEqual(row.draw(), 9)


class Least(EndCase):
    def test_without_a_key(self):
        self.check(least, Script(5), 5, 2)
        self.check(least, Script(5, 3, 4, 3, 9), 3, 6)
        self.check(least, Script("b", "ab", "a"), "a", 4)
        self.check(least, Script((2, 1), (1, 9), (1, 8)), (1, 8), 4)
        self.check(least, Script([2], [1, 5], [1]), [1], 4)

    def test_of_alike_keys_the_first(self):
        self.check(lambda row: least(row, len), Script("ccc", "bb", "aa", "ddd"), "bb", 5)
        one, other = [1], [1]
        self.assertIs(least(listed([[2], one, other])), one)
        self.assertIs(least(listed([other, one])), other)

    def test_the_least_at_each_place(self):
        for at in range(4):
            items = [(1, place) for place in range(4)]
            items[at] = (0, at)
            self.assertEqual(least(listed(items), lambda x: x[0]), (0, at))

    def test_each_key_is_asked_once(self):
        calls = ["draw", (3,), "draw", (9,), "draw", (1,), "draw", (2,), "draw"]
        self.check_calls(least, [3, 9, 1, 2], lambda x: -x, 9, calls)
        self.check_calls(least, [3], lambda x: -x, 3, ["draw", (3,), "draw"])

    def test_a_key_that_its_work_changes_later(self):
        own = [9]

        def key(x):
            own[0] -= x
            return own
        self.assertEqual(least(listed([1, 2, 3]), key), 3)

    def test_refused_with_over(self):
        for key in (None, len):
            with self.assertRaises(Over) as caught:
                least(listed([]), key)
            self.assertIsInstance(caught.exception, (DrawError, ValueError))
            self.assertNotIsInstance(caught.exception, (Halt, Tired, NoMore, BadCount, BadPlan, NoWork, BadText))


class Tally(EndCase):
    def test_without_a_key(self):
        self.check(tally, Script("a"), [("a", 1)], 2)
        self.check(tally, Script("b", "a", "b", "c", "b", "a"), [("b", 3), ("a", 2), ("c", 1)], 7)

    def test_with_a_key(self):
        self.check(lambda row: tally(row, len), Script("bb", "a", "cc", ""), [(2, 2), (1, 1), (0, 1)], 5)
        self.check(lambda row: tally(row, lambda x: None), Script(1, 2), [(None, 2)], 3)

    def test_each_key_is_asked_once(self):
        calls = ["draw", (3,), "draw", (4,), "draw", (3,), "draw"]
        self.check_calls(tally, [3, 4, 3], is_even, [(False, 2), (True, 1)], calls)

    def test_keys_of_all_kinds(self):
        deep = 1
        for _ in range(12):
            deep = (deep, 0)
        keys = [None, "a", (1, 2), [1], [1, [2]], (1, [2]), {"a": 1}, b"a", 10 ** 30, -1, "", (), [], deep, [(1, 2)]]
        items = keys + keys[::-1] + keys[::2]
        wanted = [(key, 2 + (at % 2 == 0)) for at, key in enumerate(keys)]
        self.assertEqual(tally(listed(items)), wanted)
        self.assertEqual(tally(listed(list(range(len(items)))), lambda at: items[at]), wanted)

    def test_keys_that_are_lists_or_tuples(self):
        self.assertEqual(tally(listed([12, 30, 21, 3]), lambda x: sorted(str(x))),
                         [(["1", "2"], 2), (["0", "3"], 1), (["3"], 1)])
        self.assertEqual(tally(listed([12, 30, 21]), lambda x: (x % 2, x % 3)), [((0, 0), 2), ((1, 0), 1)])

    def test_they_are_tuples_in_a_list_that_may_be_changed(self):
        row = listed([1, 1])
        told = tally(row)
        self.assertEqual([type(one) for one in told], [tuple])
        told.clear()
        self.assertEqual(tally(row), [])
        items = [[1], [2], [1]]
        told = tally(listed(items))
        told.append(9)
        self.assertEqual(items, [[1], [2], [1]])

    def test_the_very_item_that_came_first(self):
        for one, other in (([1], [1]), (([1], 2), ([1], 2)), ({"a": 1}, {"a": 1})):
            told = tally(listed([one, other]))
            self.assertEqual(told, [(one, 2)])
            self.assertIs(told[0][0], one)

    def test_a_key_that_its_work_changes_later(self):
        own = []

        def key(x):
            if x > 0:
                own.append(x)
            return own
        self.assertEqual(tally(listed([1, 0, 2, 3, 0, 0]), key), [([1], 2), ([1, 2], 1), ([1, 2, 3], 3)])

    def test_many_keys(self):
        items = list(range(20000)) * 2
        self.assertEqual(tally(listed(items)), [(x, 2) for x in range(20000)])


class Parted(EndCase):
    def test_one_and_many(self):
        self.check(lambda row: parted(row, is_even), Script(2), ([2], []), 2)
        self.check(lambda row: parted(row, is_even), Script(1), ([], [1]), 2)
        self.check(lambda row: parted(row, is_even), Script(3, 4, 2, 1, 4), ([4, 2, 4], [3, 1]), 6)

    def test_calls(self):
        self.check_calls(parted, [1, 2], is_even, ([2], [1]), ["draw", (1,), "draw", (2,), "draw"])

    def test_each_list_may_be_changed(self):
        row = listed([1, 2])
        so, others = parted(row, is_even)
        so.append(9)
        self.assertEqual((so, others), ([2, 9], [1]))
        others.clear()
        self.assertEqual(so, [2, 9])
        self.assertEqual(parted(row, is_even), ([], []))

    def test_the_very_items(self):
        one, other = [1], []
        so, others = parted(listed([one, other]), lambda x: x == [1])
        self.assertIs(so[0], one)
        self.assertIs(others[0], other)


if __name__ == "__main__":
    unittest.main()
