import unittest

from drawnworks import errors
from drawnworks.errors import BadCount, BadPlan, BadText, DrawError, Halt, NoMore, NoWork, Over, Tired

STRAIGHT_UNDER = [Over, Halt, Tired, NoMore, BadCount, BadPlan, NoWork, BadText]
VALUES = [(Halt, "why"), (Tired, "most"), (NoMore, "tries"), (BadPlan, "at"), (NoWork, "name"), (BadText, "row")]


class TheClasses(unittest.TestCase):
    def test_the_first_is_a_value_error(self):
        self.assertEqual(DrawError.__bases__, (ValueError,))

    def test_all_others_are_straight_under_it(self):
        for kind in STRAIGHT_UNDER:
            self.assertEqual(kind.__bases__, (DrawError,), kind)

    def test_there_are_no_others(self):
        kinds = [thing for thing in vars(errors).values() if isinstance(thing, type)]
        self.assertEqual(set(kinds), set(STRAIGHT_UNDER + [DrawError]))

    def test_values_by_place_and_by_name(self):
        for kind, name in VALUES:
            for value in (0, 7, "no", None, [1], (1, 2), 10 ** 9000, -(10 ** 9000)):
                self.assertIs(getattr(kind(value), name), value)
                self.assertIs(getattr(kind(**{name: value}), name), value)

    def test_those_without_a_value(self):
        for kind in (DrawError, Over, BadCount):
            self.assertEqual(vars(kind("words")), {})

    def test_taken_by_the_classes_above(self):
        for kind, _ in VALUES:
            for above in (kind, DrawError, ValueError):
                with self.assertRaises(above):
                    raise kind("why")

    def test_words_can_be_shown(self):
        for kind, _ in VALUES:
            self.assertIsInstance(str(kind(10 ** 9000)), str)


if __name__ == "__main__":
    unittest.main()
