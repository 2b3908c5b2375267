"""What the tests of plans share: steps, good and bad ones, and plans by chance."""

import random

from drawnworks.errors import Halt

NAMES = ["a", "z", "abcdef", "mno"]
GOOD = [(word, name) for word in ("map", "keep", "until", "past") for name in NAMES]
GOOD += [(word, n) for word in ("take", "skip", "number") for n in (0, 1, 7, 9, 10, 42, 98, 99)]
GOOD += [(word, n) for word in ("parcel", "window") for n in (1, 2, 9, 10, 98, 99)]
GOOD += [("once",)]

BAD_NAMES = ["", "abcdefg", "abcdefghijklmnop", "A", "aB", "abcdeF", "a1", "1", "a b", " a", "a ", "a-", "a_", "`", "{",
             "\n", "a\n", "\u00e9", "\u0430", "ab\u00df", "\uff41", 0, 1, 5, 99]
BAD_NUMBERS = [-1, -2, 100, 101, 1000, 10 ** 9000, -(10 ** 9000), "", "a", "0", "7", "42"]
BAD = [(word, name) for word in ("map", "keep", "until", "past") for name in BAD_NAMES]
BAD += [(word, n) for word in ("take", "skip", "number", "parcel", "window") for n in BAD_NUMBERS]
BAD += [("parcel", 0), ("window", 0)]
BAD += [("once", 1), ("once", "a"), ("once", 0), ("once", ""), ("once", "once")]
BAD += [(word,) for word in "map keep until past take skip number parcel window".split()]
BAD += [("map", "a", "b"), ("keep", "a", 1), ("until", "a", ""), ("past", "a", "a"), ("take", 1, 2), ("skip", 0, 0),
        ("number", 5, "a"), ("parcel", 5, 5), ("window", 5, "")]
BAD += [(), ("",), (0,), (1, 2), ("", ""), ("", "a"), ("", 5), (5, "map"), ("a", "map"), (7, "take"), (0, "a")]
NO_WORDS = ["Map", "MAP", " map", "map ", "maps", "ma", "mapped", "kept", "taken", "skipped", "flat", "numbered",
            "parcels", "windows", "runs", "scan", "tak", "Take", "fold"]
BAD += [(word, thing) for word in NO_WORDS for thing in ("a", 5)]
BAD += [("Once",), ("onc",), ("once ",), ("flat",), ("runs",)]

WORDS_AND_LEASTS = [("take", 0), ("skip", 0), ("number", 0), ("parcel", 1), ("window", 1)]


def by_chance(chance, most_steps, most_number):
    """A plan of at most so many steps, with small numbers and the works a, b and c."""
    plan = []
    for _ in range(chance.randrange(most_steps + 1)):
        if chance.random() < 0.25:
            plan.append(chance.choice([("once",)] + [(word, name) for word in ("map", "keep", "until", "past")
                                                     for name in "abc"]))
        else:
            word, low = chance.choice(WORDS_AND_LEASTS[:3] * 4 + WORDS_AND_LEASTS)
            plan.append((word, chance.randint(low, most_number)))
    return plan


class Making:
    """Items, works and a log of what is drawn and called: the same ones of the same seed."""

    def __init__(self, seed):
        chance = random.Random(-1 - seed)
        self.log = []
        self.events = [Halt(n) if chance.random() < 0.2 else KeyError(n) if chance.random() < 0.05
                       else chance.randrange(3) for n in range(chance.randrange(12))]
        self.works = {name: self.noting(name, {n for n in range(12) if chance.random() < 0.2}) for name in "abc"}

    def noting(self, name, halts):
        calls = []

        def work(x):
            calls.append(x)
            self.log.append((name, x))
            if len(calls) in halts:
                raise Halt((name, len(calls)))
            return sum(map(ord, name + repr(x))) % 3 != 0
        return work
