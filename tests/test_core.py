"""What the rows share, where no row shows it: LANGUAGE.md's L24 on keys of dicts."""

import unittest

from drawnworks.core import Keys, is_plain


def nested(deep, within):
    for _ in range(deep):
        within = (within,)
    return within


class PlainKeys(unittest.TestCase):
    def test_plain(self):
        for key in (None, True, 0, -3, "", "a", b"a", (), (1, ("a", None)), nested(8, 1)):
            self.assertTrue(is_plain(key), key)

    def test_not_plain(self):
        for key in ([], {}, (1, []), object(), nested(9, 1), nested(3, [])):
            self.assertFalse(is_plain(key), key)

    def test_places_in_the_order_in_which_they_came(self):
        keys = Keys()
        learnt = [[], 0, "a", [0], nested(9, 1), None, {"a": 1}, nested(8, 1)]
        for key in learnt:
            keys.learn(key)
        self.assertEqual([keys.place(key) for key in learnt], list(range(8)))

    def test_both_are_known_behind_being_learnt_alone(self):
        keys = Keys()
        for key in (0, "a", [], [0], nested(8, 1), nested(9, 1), {"a": 1}):
            self.assertFalse(keys.knows(key))
            keys.learn(key)
            self.assertTrue(keys.knows(key))
        self.assertEqual(len(keys.plain), 3)


if __name__ == "__main__":
    unittest.main()
