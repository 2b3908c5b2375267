"""Rows that are watched, and rows that are tried again, otherwise, or not too often."""

from drawnworks.core import Row, at_least
from drawnworks.errors import Halt, NoMore, Over, Tired


def watched(row, note):
    """The same items, with a note ahead of each draw and one behind it."""

    def tell():
        note("ask", None)
        try:
            x = row.draw()
        except Over:
            note("over", None)
            raise
        except Halt as halt:
            note("halt", halt.why)
            raise
        note("item", x)
        return x

    return Row(tell)


def again(row, times=1):
    """The row's items; behind a Halt it is drawn again, so many times for one item."""
    at_least(times, 0)

    def tell():
        tries = 0
        while tries <= times:
            try:
                return row.draw()
            except Halt:
                tries += 1
        raise NoMore(tries)

    return Row(tell)


def instead(row, other):
    """The row's items up to its first Halt, then the other's."""
    halted = False

    def tell():
        nonlocal halted
        if not halted:
            try:
                return row.draw()
            except Halt:
                pass
            halted = True
        return other.draw()

    return Row(tell)


def limited(row, most):
    """The row's items; it is drawn so many times at the most."""
    at_least(most, 0)
    draws = 0

    def tell():
        nonlocal draws
        if draws >= most:
            raise Tired(most)
        draws += 1
        return row.draw()

    return Row(tell)
