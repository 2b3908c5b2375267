"""Point [4]: where items come from."""

import unittest

from drawnworks.errors import BadCount, DrawError, Halt, Over
from drawnworks.rows import asked, counted, figures, grown, lined, listed, places
from tests.helping import OVER, Noting, outcomes, told


class RowCase(unittest.TestCase):
    def tells(self, row, items):
        """Every item in its order, then Over, and Over again."""
        self.assertEqual(outcomes(row, len(items) + 3), items + [OVER, OVER, OVER])

    def refuses(self, make, *things):
        with self.assertRaises(BadCount) as caught:
            make(*things)
        self.assertIs(type(caught.exception), BadCount)


class OverIsOver(RowCase):
    def test_taken_by_the_classes_above(self):
        for above in (Over, DrawError, ValueError):
            row = listed([])
            for _ in range(3):
                with self.assertRaises(above) as caught:
                    row.draw()
                self.assertIs(type(caught.exception), Over)


class Listed(RowCase):
    def test_items_in_their_order(self):
        self.tells(listed([3, 1, 2, 1]), [3, 1, 2, 1])
        self.tells(listed([5]), [5])
        self.tells(listed([]), [])

    def test_items_of_all_kinds_are_told_as_they_came(self):
        items = [None, True, False, 0, -5, 10 ** 400, "", "text", [], [1, [2]], (), (1, [2]), {"a": 1}, b"x",
                 Halt("an item, too"), object(), len, ()]
        row = listed(items)
        for item in items:
            self.assertIs(row.draw(), item)
        self.assertEqual(outcomes(row, 2), [OVER, OVER])

    def test_the_list_is_not_changed(self):
        items = [1, [2], 3]
        told(listed(items))
        self.assertEqual(items, [1, [2], 3])

    def test_the_list_may_be_changed_later(self):
        items = [1, 2, 3]
        row = listed(items)
        items[0] = 9
        self.assertEqual(row.draw(), 1)
        items.clear()
        self.assertEqual(row.draw(), 2)
        items.extend([7, 8, 9, 10])
        self.tells(row, [3])

    def test_behind_over_new_items_do_not_count(self):
        items = []
        row = listed(items)
        self.assertEqual(outcomes(row, 1), [OVER])
        items.append(1)
        self.tells(row, [])

    def test_two_rows_of_one_list(self):
        items = [1, 2]
        one, other = listed(items), listed(items)
        self.assertEqual([one.draw(), other.draw(), one.draw(), other.draw()], [1, 1, 2, 2])

    def test_a_long_list(self):
        self.assertEqual(told(listed(list(range(100000)))), list(range(100000)))


class Counted(RowCase):
    def test_without_end(self):
        self.assertEqual(outcomes(counted(0), 5), [0, 1, 2, 3, 4])
        self.assertEqual(outcomes(counted(-2, 3, None), 4), [-2, 1, 4, 7])
        self.assertEqual(outcomes(counted(0), 5000)[-1], 4999)

    def test_any_begin_and_step(self):
        for begin in (-7, -1, 0, 1, 12, 10 ** 50):
            for step in (-3, -1, 0, 1, 2, 10 ** 40):
                wanted = [begin, begin + step, begin + step + step, begin + step + step + step]
                self.assertEqual(outcomes(counted(begin, step), 4), wanted)
                self.tells(counted(begin, step, 4), wanted)

    def test_many(self):
        self.tells(counted(5, 2, 0), [])
        self.tells(counted(5, 2, 1), [5])
        self.tells(counted(5, 2, 3), [5, 7, 9])
        self.tells(counted(5, 0, 2), [5, 5])
        self.tells(counted(5, -5, 2), [5, 0])

    def test_too_little(self):
        for many in (-1, -2, -(10 ** 9000)):
            self.refuses(counted, 0, 1, many)
            self.refuses(counted, 0, -1, many)


class Asked(RowCase):
    def test_until_none_and_not_asked_behind_it(self):
        tells = [1, 0, False, "", [], (), None, 5, 6]
        work = Noting(lambda: tells[len(work.calls) - 1])
        row = asked(work)
        self.assertEqual(work.calls, [])
        self.assertEqual(outcomes(row, 1), [1])
        self.assertEqual(work.calls, [()])
        self.tells(row, [0, False, "", [], ()])
        self.assertEqual(work.calls, [()] * 7)

    def test_none_at_once(self):
        work = Noting(lambda: None)
        self.tells(asked(work), [])
        self.assertEqual(len(work.calls), 1)

    def test_what_is_told_is_taken_as_it_is(self):
        own = [1]
        row = asked(lambda: own)
        self.assertIs(row.draw(), own)
        self.assertIs(row.draw(), own)

    def test_a_refusal_comes_out_and_the_row_goes_on(self):
        for refusal in (Halt("tea"), KeyError("k"), StopIteration(), ValueError("v"), IndexError(), TypeError()):
            work = Noting(lambda: len(work.calls) if len(work.calls) < 4 else None, {1: refusal})
            row = asked(work)
            self.assertEqual(row.draw(), 1)
            found = outcomes(row, 1)[0]
            self.assertIs(found, refusal)
            self.tells(row, [3])
            self.assertEqual(len(work.calls), 4)

    def test_why_is_kept(self):
        def work():
            raise Halt(["no", 3])
        with self.assertRaises(Halt) as caught:
            asked(work).draw()
        self.assertEqual(caught.exception.why, ["no", 3])


class Grown(RowCase):
    def test_items_and_states(self):
        work = Noting(lambda state: ((state, "x"), state * 2) if state < 8 else None)
        row = grown(work, 1)
        self.assertEqual(work.calls, [])
        self.tells(row, [(1, "x"), (2, "x"), (4, "x")])
        self.assertEqual(work.calls, [(1,), (2,), (4,), (8,)])

    def test_none_at_once(self):
        work = Noting(lambda state: None)
        self.tells(grown(work, 3), [])
        self.assertEqual(work.calls, [(3,)])

    def test_only_what_is_needed_is_called(self):
        work = Noting(lambda state: (state, state + 1))
        row = grown(work, 0)
        for many in range(1, 4):
            row.draw()
            self.assertEqual(len(work.calls), many)

    def test_an_item_or_a_state_that_is_none(self):
        work = Noting(lambda state: (None, None) if len(work.calls) < 3 else None)
        self.tells(grown(work, None), [None, None])
        self.assertEqual(work.calls, [(None,)] * 3)

    def test_states_of_any_size(self):
        self.assertEqual(outcomes(grown(lambda n: (n % 1000, n * n + 1), 3), 15)[:4], [3, 10, 101, 202])
        row = grown(lambda xs: (len(xs), xs + xs) if len(xs) < 5000 else None, ["a"])
        self.assertEqual(told(row)[-1], 4096)
        state = [1]
        work = Noting(lambda same: (same, same))
        row = grown(work, state)
        self.assertIs(row.draw(), state)
        self.assertIs(row.draw(), state)
        self.assertIs(work.calls[1][0], state)

    def test_behind_a_refusal_with_the_same_state(self):
        for refusal in (Halt("h"), StopIteration("s"), ValueError("v")):
            work = Noting(lambda state: (state, state + 1) if state < 3 else None, {1: refusal, 2: refusal})
            row = grown(work, 0)
            self.assertEqual(row.draw(), 0)
            self.assertIs(outcomes(row, 1)[0], refusal)
            self.assertIs(outcomes(row, 1)[0], refusal)
            self.tells(row, [1, 2])
            self.assertEqual(work.calls, [(0,), (1,), (1,), (1,), (2,), (3,)])


class Figures(RowCase):
    def test_small(self):
        self.tells(figures(0), [])
        self.tells(figures(0, 2), [])
        self.tells(figures(7), [7])
        self.tells(figures(10), [0, 1])
        self.tells(figures(2050), [0, 5, 0, 2])
        self.tells(figures(6, 2), [0, 1, 1])
        self.tells(figures(255, 16), [15, 15])
        self.tells(figures(35, 36), [35])
        self.tells(figures(1234, 1000), [234, 1])

    def test_all_small_ones_by_several_bases(self):
        for base in (2, 3, 7, 10, 16, 100):
            for number in range(300):
                found = told(figures(number, base))
                self.assertEqual(sum(one * base ** at for at, one in enumerate(found)), number)
                self.assertTrue(all(0 <= one < base for one in found))
                self.assertNotEqual(found[-1:], [0])

    def test_very_great(self):
        self.tells(figures(10 ** 6000), [0] * 6000 + [1])
        self.tells(figures(3 ** 3000 * 2, 3), [0] * 3000 + [2])
        self.tells(figures(10 ** 400 + 5, 10 ** 400), [5, 1])
        self.assertEqual(figures(10 ** 9000 + 4).draw(), 4)

    def test_too_little(self):
        for number in (-1, -10, -(10 ** 9000)):
            self.refuses(figures, number)
        for base in (1, 0, -1, -2, -10):
            self.refuses(figures, 5, base)
            self.refuses(figures, 0, base)


class Places(RowCase):
    def test_small(self):
        self.tells(places(0), [])
        self.tells(places(1), [0])
        self.tells(places(2), [1])
        self.tells(places(3), [0, 1])
        self.tells(places(0b1011000), [3, 4, 6])

    def test_all_small_ones(self):
        for number in range(600):
            self.assertEqual(told(places(number)), [at for at in range(10) if number >> at & 1])

    def test_very_great(self):
        self.tells(places(1 << 200000), [200000])
        self.tells(places((1 << 5000) + (1 << 77) + 1), [0, 77, 5000])
        self.tells(places((1 << 3000) - 1), list(range(3000)))

    def test_too_little(self):
        for number in (-1, -2, -8, -(1 << 9000)):
            self.refuses(places, number)


class Lined(RowCase):
    def test_rows(self):
        self.tells(lined("one\ntwo\nthree"), ["one", "two", "three"])
        self.tells(lined("one"), ["one"])

    def test_blanks_ahead_behind_and_between(self):
        self.tells(lined("  a b   c \n d\ne  "), ["a b   c", "d", "e"])

    def test_empty_rows_and_rows_of_blanks_are_left_out(self):
        self.tells(lined("\n\na\n\n   \nb\n"), ["a", "b"])
        self.tells(lined(" \n  a"), ["a"])
        self.tells(lined("a\n "), ["a"])

    def test_nothing_at_all(self):
        for text in ("", " ", "\n", " \n  \n", "\n\n\n"):
            self.tells(lined(text), [])

    def test_other_signs_are_no_blanks_and_no_line_ends(self):
        self.tells(lined("\ta\t\n\rb\r\nc\x0bd\x0ce\u2028f\x85g"), ["\ta\t", "\rb\r", "c\x0bd\x0ce\u2028f\x85g"])


if __name__ == "__main__":
    unittest.main()
