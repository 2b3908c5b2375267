"""Rows that are made of one row. x is its next item."""

from drawnworks.core import Keys, Row, Source, at_least, key_of
from drawnworks.errors import Over


def mapped(row, work):
    """work(x)."""

    def tell():
        return work(row.draw())

    return Row(tell)


def kept(row, test):
    """The next x of which test(x) is True."""

    def tell():
        x = row.draw()
        while not test(x):
            x = row.draw()
        return x

    return Row(tell)


def taken(row, many):
    """So many items at the most."""
    at_least(many, 0)
    told = 0

    def tell():
        nonlocal told
        if told == many:
            raise Over("so many items are told")
        x = row.draw()
        told += 1
        return x

    return Row(tell)


def skipped(row, many):
    """What comes behind the first so many items."""
    at_least(many, 0)
    gone = 0

    def tell():
        nonlocal gone
        while gone < many:
            row.draw()
            gone += 1
        return row.draw()

    return Row(tell)


def until(row, test):
    """x, as long as test(x) is True."""

    def tell():
        x = row.draw()
        if not test(x):
            raise Over("the test isn't met any more")
        return x

    return Row(tell)


def past(row, test):
    """From the first x on of which test(x) isn't True."""
    begun = False

    def tell():
        nonlocal begun
        x = row.draw()
        while not begun and test(x):
            x = row.draw()
        begun = True
        return x

    return Row(tell)


def numbered(row, begin=0):
    """(number, x), numbers from begin on."""
    number = begin

    def tell():
        nonlocal number
        told = (number, row.draw())
        number += 1
        return told

    return Row(tell)


def flat(row):
    """The items of the lists that the row tells."""
    waiting = []

    def tell():
        nonlocal waiting
        while not waiting:
            # Turned round: the next item is taken off the end, whatever the length.
            waiting = list(row.draw())[::-1]
        return waiting.pop()

    return Row(tell)


def parcels(row, many):
    """Lists of so many items, the last one of what is left."""
    at_least(many, 1)
    source = Source(row)
    waiting = []

    def tell():
        nonlocal waiting
        while len(waiting) < many and source.advance():
            waiting.append(source.fresh)
        if not waiting:
            raise Over("nothing is left")
        told = waiting
        waiting = []
        return told

    return Row(tell)


def windows(row, many):
    """Lists of so many neighbours, each begins one item further."""
    at_least(many, 1)
    waiting = []

    def tell():
        nonlocal waiting
        while len(waiting) < many:
            waiting.append(row.draw())
        told = waiting
        waiting = told[1:]
        return told

    return Row(tell)


def scanned(row, work, begin):
    """begin, then work(last, x), last being what was told ahead."""
    last = begin
    begun = False

    def tell():
        nonlocal last, begun
        if begun:
            last = work(last, row.draw())
        begun = True
        return last

    return Row(tell)


def once(row, key=None):
    """The next x with a key unlike those of all that were told."""
    known = Keys()

    def tell():
        x = row.draw()
        mark = key_of(x, key)
        while known.knows(mark):
            x = row.draw()
            mark = key_of(x, key)
        known.learn(mark)
        return x

    return Row(tell)


def runs(row, key=None):
    """Lists of neighbours with alike keys."""
    source = Source(row)
    waiting = []
    alike = None

    def tell():
        nonlocal waiting, alike
        told = []
        while not told and source.advance():
            mark = key_of(source.fresh, key)
            if waiting and mark != alike:
                told = waiting
                waiting = []
            waiting.append(source.fresh)
            alike = mark
        if not told:
            told = waiting
            waiting = []
        if not told:
            raise Over("nothing is left")
        return told

    return Row(tell)
