"""Rows that are shared among several, and items that are kept."""

from drawnworks.core import Row, Source, at_least
from drawnworks.errors import BadCount, Over

MOST_ROWS = 9


def split(row, many=2):
    """A list of so many rows, each of which tells all items."""
    at_least(many, 1)
    if many > MOST_ROWS:
        raise BadCount("too many rows")
    source = Source(row)
    queues = [Queue() for at in range(many)]
    return [one_of(source, queues, at) for at in range(many)]


def one_of(source, queues, at):
    """The row whose items wait in the queue at that place."""
    own = queues[at]

    def tell():
        if own.is_empty():
            draw_for_all(source, queues)
        return own.take()

    return Row(tell)


def draw_for_all(source, queues):
    if not source.advance():
        raise Over("the row is over")
    for queue in queues:
        queue.put(source.fresh)


class Queue:
    """Items that wait: the one that was put first is taken first."""

    def __init__(self):
        self.ahead = []
        self.behind = []

    def is_empty(self):
        return not self.ahead and not self.behind

    def put(self, x):
        self.behind.append(x)

    def take(self):
        if not self.ahead:
            # Turned round: the next item is taken off the end, whatever the length.
            self.ahead = self.behind[::-1]
            self.behind = []
        return self.ahead.pop()


class Memory:
    """Keeps all items of a row, each drawn once."""

    def __init__(self, row):
        self.source = Source(row)
        self.known = []

    def item(self, number):
        """The item of that number, from 0; the row is drawn as far as need be."""
        at_least(number, 0)
        while len(self.known) <= number:
            if not self.source.advance():
                raise Over("the row is over")
            self.known.append(self.source.fresh)
        return self.known[number]

    def drawn(self):
        """How many items were drawn so far."""
        return len(self.known)

    def replay(self):
        """A new row of all items, from the first one on."""
        told = 0

        def tell():
            nonlocal told
            x = self.item(told)
            told += 1
            return x

        return Row(tell)
