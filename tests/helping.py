"""What the tests share: rows and works that note what is done with them."""

import unittest

from drawnworks.errors import Halt, Over

OVER = "<over>"


class Script:
    """A row that tells, or refuses with, what a list says, and notes each draw."""

    def __init__(self, *events, log=None, name="draw"):
        self.events = list(events)
        self.draws = 0
        self.log = [] if log is None else log
        self.name = name

    def draw(self):
        self.draws += 1
        self.log.append(self.name)
        if self.draws > len(self.events):
            raise Over("the script is over")
        event = self.events[self.draws - 1]
        if isinstance(event, Exception):
            raise event
        return event


class Noting:
    """A work that notes what it is called with, and refuses what its list says.

    refusals is a dict from the number of a call, from 0, to an error."""

    def __init__(self, work, refusals=None, log=None):
        self.work = work
        self.refusals = refusals or {}
        self.calls = []
        self.log = [] if log is None else log

    def __call__(self, *things):
        self.calls.append(things)
        self.log.append(things)
        refusal = self.refusals.get(len(self.calls) - 1)
        if refusal is not None:
            raise refusal
        return self.work(*things)


def outcome(row):
    """What one draw tells, OVER, or the very error that comes out of it."""
    try:
        return row.draw()
    except Over:
        return OVER
    except Exception as error:
        return error


def come_of(end, row):
    """What an end of a row tells, OVER, or the very error that comes out of it."""
    try:
        return end(row)
    except Over:
        return OVER
    except Exception as error:
        return error


def shown(come):
    """What a draw comes to, so that two errors that say the same are alike."""
    if isinstance(come, Exception):
        return (type(come).__name__, str(come), vars(come))
    return come


def outcomes(row, many):
    return [outcome(row) for _ in range(many)]


def told(row):
    """All items of a row, up to its Over."""
    items = []
    while True:
        try:
            items.append(row.draw())
        except Over:
            return items


def refusals():
    """What a work may refuse with: Halt, or any error of another kind."""
    return [Halt("why"), KeyError("k"), StopIteration(3), ValueError("v"), IndexError(), ZeroDivisionError(),
            AttributeError("a"), RuntimeError("r"), LookupError()]


class RowCase(unittest.TestCase):
    def check(self, row, wanted):
        """Each draw comes to the wanted thing, then to Over, again and again.

        A refusal comes out as the very error that is wanted."""
        for one in wanted + [OVER, OVER, OVER]:
            found = outcome(row)
            if isinstance(one, Exception):
                self.assertIs(found, one)
            else:
                self.assertEqual(found, one)
