"""Rows of items that come from no other row."""

from drawnworks.core import Row, at_least
from drawnworks.errors import Over


def listed(items):
    """The items of a list."""
    # Turned round: the next item is taken off the end, whatever the length.
    waiting = list(items)[::-1]

    def tell():
        if not waiting:
            raise Over("all items are told")
        return waiting.pop()

    return Row(tell)


def counted(begin, step=1, many=None):
    """begin, then always step more; without end if many is None."""
    if many is not None:
        at_least(many, 0)
    told = 0

    def tell():
        nonlocal told
        # No number equals None, so that many being None never ends it.
        if told == many:
            raise Over("all numbers are told")
        told += 1
        return begin + (told - 1) * step

    return Row(tell)


def asked(work):
    """What work() tells, until it tells None."""

    def tell():
        told = work()
        if told is None:
            raise Over("the work told nothing")
        return told

    return Row(tell)


def grown(work, state):
    """The items of what work(state) tells, (item, next state), until it tells None."""
    now = state

    def tell():
        nonlocal now
        told = work(now)
        if told is None:
            raise Over("the work told nothing")
        x, now = told
        return x

    return Row(tell)


def figures(number, base=10):
    """The figures of a number, the lowest first."""
    at_least(number, 0)
    at_least(base, 2)
    rest = number

    def tell():
        nonlocal rest
        if rest == 0:
            raise Over("all figures are told")
        rest, figure = divmod(rest, base)
        return figure

    return Row(tell)


def places(number):
    """The places at which a number, written by ones and noughts, has a 1, rising."""
    at_least(number, 0)
    # A text is searched in one go, while each shift copies a great number.
    signs = f"{number:b}"
    end = len(signs)

    def tell():
        nonlocal end
        at = signs.rfind("1", 0, end)
        if at < 0:
            raise Over("all places are told")
        end = at
        return len(signs) - 1 - at

    return Row(tell)


def lined(text):
    """The rows of a text without blanks at both ends, but for empty ones."""
    rows = [row.strip(" ") for row in text.split("\n")]
    return listed([row for row in rows if row != ""])
