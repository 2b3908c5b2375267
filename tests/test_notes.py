"""Point [14]: plans that are written as texts, and texts that are read."""

import random
import unittest

from drawnworks.errors import BadCount, BadPlan, BadText, DrawError, Halt, NoMore, NoWork, Over, Tired
from drawnworks.notes import read, written
from tests.helping import come_of
from tests.planning import GOOD, by_chance

KINDS = (Over, Halt, Tired, NoMore, BadCount, BadPlan, NoWork, BadText)
WORDS = "map keep until past take skip number parcel window once".split()
NAMED = WORDS[:4]
NUMBERED = WORDS[4:9]


def bad_rows():
    """Rows that write no step, without a line end in any of them."""
    rows = ["", " ", "  ", "\t", "x", "7", "0", "a", "plan", "flat", "runs", "map a keep b", "7 take", "a map"]
    for word in WORDS[:9]:
        rows += [word, word + " ", " " + word, word + "\t", word * 2 + " 5", word[:-1] + " 5", word + "s 5"]
    for word in NAMED:
        rows += [word + " " + name for name in ("abcdefg", "A", "aB", "a1", "1", "07", "a-b", "\u00e9", "\u0430", "a.")]
        rows += [word + "  a", " " + word + " a", word + " a ", word + "\ta", word + " a\t", word + " a b", word + "a",
                 word.upper() + " a", word.title() + " a", word + " a\r", word + "\u00a0a", word + ", a", word + "  "]
    for word in NUMBERED:
        rows += [word + " " + number for number in (
            "00", "01", "07", "007", "000", "100", "999", "099", "1000", "-1", "-0", "+1", "+0", "+7", "1.", "1.0",
            "1_0", "0x1", "a", "one", "5a", "a5", "1e1", "\u0665", "\u0664\u0662", "\u00b2", "\uff15", "5\u0665",
            "9" * 9000, "0" * 9000)]
        rows += [word + "  5", " " + word + " 5", word + " 5 ", word + "\t5", word + " 5\t", word + " 5 5", word + "5",
                 word.upper() + " 5", word.title() + " 5", word + " 5\r", word + "\u00a05", word + " 1 2",
                 word + " 5  "]
    rows += ["parcel 0", "window 0", "once ", " once", "once\t", "once 1", "once a", "once once", "Once", "ONCE",
             "once\r", "onc", "onces", "once 0"]
    return rows


class Written(unittest.TestCase):
    def test_each_kind(self):
        plan = [("map", "a"), ("keep", "abcdef"), ("until", "b"), ("past", "z"), ("take", 0), ("skip", 7),
                ("number", 99), ("parcel", 1), ("window", 10), ("once",)]
        text = "map a\nkeep abcdef\nuntil b\npast z\ntake 0\nskip 7\nnumber 99\nparcel 1\nwindow 10\nonce"
        self.assertEqual(written(plan), text)
        self.assertEqual(read(text), plan)
        for step, row in zip(plan, text.split("\n")):
            self.assertEqual(written([step]), row)
            self.assertEqual(read(row), [step])

    def test_no_steps(self):
        self.assertEqual(written([]), "")
        self.assertEqual(read(""), [])

    def test_the_plan_stays(self):
        plan = [("skip", 0), ("take", 3)]
        self.assertEqual(written(plan), "skip 0\ntake 3")
        self.assertEqual(plan, [("skip", 0), ("take", 3)])


class ReadToTheSame(unittest.TestCase):
    def check(self, plan):
        found = read(written(plan))
        self.assertEqual(found, plan)
        self.assertIs(type(found), list)
        for step, wanted in zip(found, plan):
            self.assertEqual([type(part) for part in step], [type(part) for part in wanted])
            self.assertIs(type(step), tuple)

    def test_every_step(self):
        for step in GOOD:
            self.check([step])
            self.check([step, step])
        for word, low in zip(NUMBERED, (0, 0, 0, 1, 1)):
            for n in range(low, 100):
                self.check([(word, n)])

    def test_words_as_names(self):
        for word in ("map", "take", "once", "keep", "number"):
            self.check([("map", word)])

    def test_forty_steps(self):
        self.check(GOOD[:40])
        self.check([("once",)] * 40)
        self.check([("map", "abcdef")] * 40)

    def test_plans_by_chance(self):
        for seed in range(500):
            self.check(by_chance(random.Random(seed), 40, 99))

    def test_the_told_list_may_be_changed(self):
        for text in ("", "once\nmap a"):
            before = read(text)
            read(text).append(("take", 3))
            self.assertEqual(read(text), before)


class Refused(unittest.TestCase):
    def check(self, text, kind, value, wanted):
        error = come_of(read, text)
        self.assertIs(type(error), kind, text[:50])
        self.assertEqual(getattr(error, value), wanted, text[:50])
        for other in KINDS:
            self.assertEqual(isinstance(error, other), other is kind)
        for above in (kind, DrawError, ValueError):
            with self.assertRaises(above):
                raise error

    def test_each_bad_row(self):
        for row in bad_rows():
            if row != "":
                self.check(row, BadText, "row", 0)
            self.check(row + "\nonce", BadText, "row", 0)
            self.check("once\ntake 5\n" + row + "\nonce", BadText, "row", 2)
            self.check("once\n" + row, BadText, "row", 1)

    def test_the_first_of_several(self):
        self.check("once\ntake\nskip\nonce", BadText, "row", 1)
        self.check("take 07\nonce\ntake 07", BadText, "row", 0)

    def test_line_ends(self):
        self.check("\n", BadText, "row", 0)
        self.check("\n\n", BadText, "row", 0)
        self.check("once\n", BadText, "row", 1)
        self.check("\nonce", BadText, "row", 0)
        self.check("once\n\nonce", BadText, "row", 1)
        self.check("once\ntake 5\n\n", BadText, "row", 2)
        for end in ("\r\n", "\r", "\x0b", "\x0c", "\u2028", "\u0085", "\x1c"):
            self.check("once" + end + "once", BadText, "row", 0)

    def test_numbers_out_of_bounds_for_their_word(self):
        for word, low in zip(NUMBERED, (0, 0, 0, 1, 1)):
            for n in range(120):
                if low <= n <= 99:
                    self.assertEqual(read(f"{word} {n}"), [(word, n)])
                else:
                    self.check(f"{word} {n}", BadText, "row", 0)

    def test_forty_one_good_rows(self):
        for row in ("once", "take 5", "map a"):
            self.assertEqual(len(read("\n".join([row] * 40))), 40)
            for many in (41, 42, 60):
                self.check("\n".join([row] * many), BadPlan, "at", 40)

    def test_a_bad_row_among_many(self):
        for many in (41, 50):
            for at in (0, 5, 39, 40, many - 1):
                rows = ["once"] * many
                rows[at] = "take 100"
                self.check("\n".join(rows), BadText, "row", at)
        self.check("once\n" * 41, BadText, "row", 41)
        self.check("once\n" * 40, BadText, "row", 40)


if __name__ == "__main__":
    unittest.main()
