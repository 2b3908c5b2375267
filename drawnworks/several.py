"""Rows that are made of several rows."""

from drawnworks.core import Row, Source, key_of
from drawnworks.errors import Over


def pairs(one, other):
    """(the one's item, the other's), over when either is."""

    def tell():
        left = one.draw()
        return (left, other.draw())

    return Row(tell)


def chained(rows):
    """The first row's items, when it's over the next one's, and so on."""
    # Turned round: a row that is over is taken off the end, however many there are.
    left = list(rows)[::-1]

    def tell():
        while left:
            try:
                return left[-1].draw()
            except Over:
                left.pop()
        raise Over("all rows are over")

    return Row(tell)


def in_turn(rows):
    """An item of the first row, of the next, and so on, and round again."""
    left = list(rows)
    turn = 0

    def tell():
        nonlocal turn
        while left:
            turn = turn if turn < len(left) else 0
            try:
                x = left[turn].draw()
            except Over:
                # The next one moves up to this place, and so has its turn now.
                left.pop(turn)
            else:
                turn += 1
                return x
        raise Over("all rows are over")

    return Row(tell)


def merged(one, other, key):
    """Of the two rows' next items that with the lesser key, of alike keys the one's."""
    left = Side(one, key)
    right = Side(other, key)

    def tell():
        left.look()
        right.look()
        if not left.waits and not right.waits:
            raise Over("both rows are over")
        if not left.waits or (right.waits and right.mark < left.mark):
            return right.give()
        return left.give()

    return Row(tell)


class Side:
    """One of two rows that are merged: its next item waits, with its key."""

    def __init__(self, row, key):
        self.source = Source(row)
        self.key = key
        self.mark = None
        self.waits = False

    def look(self):
        """Draw an item, if none waits. It waits as soon as its key is told."""
        if not self.waits and self.source.advance():
            self.mark = key_of(self.source.fresh, self.key)
            self.waits = True

    def give(self):
        self.waits = False
        return self.source.fresh
