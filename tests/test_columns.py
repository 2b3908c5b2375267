"""Point [11]: columns."""

import unittest

from drawnworks.ends import columns, everything
from drawnworks.errors import BadCount, BadPlan, BadText, DrawError, Halt, NoMore, NoWork, Over, Tired
from drawnworks.rows import listed
from drawnworks.stages import mapped
from tests.helping import Script, come_of, refusals

OTHERS = (Over, Halt, Tired, NoMore, BadPlan, NoWork, BadText)


class Columns(unittest.TestCase):
    def check(self, lists, sides, wanted, *gap):
        row = Script(*lists)
        self.assertEqual(columns(row, sides, *gap), wanted)
        self.assertEqual(row.draws, len(lists) + 1)

    def test_no_rows(self):
        for sides in ("", "l", "lr0"):
            self.check([], sides, "")

    def test_one_row(self):
        self.check([["ab"]], "l", "ab")
        self.check([["ab", "", "c"]], "lr0", "ab  c")

    def test_each_side(self):
        self.check([["a"], ["bcd"], [""]], "l", "a  \nbcd\n   ")
        self.check([["a"], ["bcd"], [""]], "r", "  a\nbcd\n   ")
        self.check([["1"], ["234"], [""]], "0", "001\n234\n000")

    def test_noughts_stand_ahead_of_all_signs(self):
        self.check([["-5"], ["+12"], ["1234"], [" 7"]], "0", "00-5\n0+12\n1234\n00 7")

    def test_many(self):
        self.check([["pear", "7", "12"], ["fig", "120", "3"]], "lr0", "pear   7 12\nfig  120 03")
        self.check([["a", "b"], ["cc", "dd"], ["e", ""]], "rl", " a b \ncc dd\n e   ")

    def test_the_widest_at_each_place_in_each_row(self):
        for at in range(3):
            lists = [["x", "y"] for _ in range(3)]
            lists[at] = ["wide", "yy"]
            wanted = ["x    y " for _ in range(3)]
            wanted[at] = "wide yy"
            self.check(lists, "ll", "\n".join(wanted))

    def test_empty_texts(self):
        self.check([["", ""], ["", ""]], "l0", " \n ")
        self.check([["", "a"], ["", ""]], "r0", " a\n 0")

    def test_no_signs_at_all(self):
        self.check([[]], "", "")
        self.check([[], []], "", "\n")
        self.check([[], [], []], "", "\n\n", "gap")

    def test_gap(self):
        lists = [["a", "b", "c"], ["dd", "e", "f"]]
        self.check(lists, "lll", "a  b c\ndd e f")
        self.check(lists, "lll", "a bc\nddef", "")
        self.check(lists, "lll", "a  | b | c\ndd | e | f", " | ")
        self.check([["a"], ["b"]], "l", "a\nb", " | ")

    def test_a_text_is_taken_as_it_is(self):
        self.check([[" a "], ["bcdef"]], "l", " a   \nbcdef")
        self.check([[" a "], ["bcdef"]], "r", "   a \nbcdef")

    def test_the_lists_stay_as_they_are(self):
        lists = [["a", "b"], ["cc", ""]]
        columns(listed(lists), "l0")
        self.assertEqual(lists, [["a", "b"], ["cc", ""]])

    def test_a_list_that_its_work_changes_later(self):
        own = []

        def work(x):
            own[:] = [x]
            return own
        self.assertEqual(columns(mapped(listed(["a", "bb", "c"]), work), "r"), " a\nbb\n c")


class Refused(unittest.TestCase):
    def check(self, lists, sides, at):
        """Refused as soon as the list at that place is drawn; the row goes on behind it."""
        row = Script(*lists)
        with self.assertRaises(BadCount) as caught:
            columns(row, sides)
        self.assertIsInstance(caught.exception, DrawError)
        self.assertIsInstance(caught.exception, ValueError)
        self.assertNotIsInstance(caught.exception, OTHERS)
        self.assertEqual(row.draws, at + 1)
        self.assertEqual(everything(row), lists[at + 1:])

    def test_a_list_of_another_count(self):
        for wrong in ([], ["a"], ["a", "b", "c"]):
            self.check([wrong], "ll", 0)
            self.check([wrong, ["a", "b"], ["c", "d"]], "ll", 0)
            self.check([["a", "b"], wrong, ["c", "d"]], "ll", 1)
            self.check([["a", "b"], ["c", "d"], wrong], "ll", 2)
        self.check([["a"]], "", 0)
        self.check([[], ["a"]], "", 1)

    def test_ahead_of_a_later_refusal(self):
        self.assertIsInstance(come_of(lambda row: columns(row, "l"), Script(["a", "b"], Halt(1))), BadCount)
        halt = Halt(1)
        self.assertIs(come_of(lambda row: columns(row, "l"), Script(["a"], halt, ["a", "b"])), halt)

    def test_the_row_refuses(self):
        for no in refusals() + [Tired(3), NoMore(2)]:
            row = Script(["a"], no, ["b"])
            self.assertIs(come_of(lambda row: columns(row, "l"), row), no)
            self.assertEqual(columns(row, "l"), "b")

    def test_a_sign_that_is_no_side(self):
        for sides in ("x", "lx", "L", "lrO", "l r"):
            row = Script(["a"] * len(sides))
            self.assertIsInstance(come_of(lambda row: columns(row, sides), row), BadCount)
            self.assertEqual(row.draws, 0)


if __name__ == "__main__":
    unittest.main()
