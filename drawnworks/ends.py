"""What all items of a row come to."""

from drawnworks.core import Keys, Source, as_it_is, key_itself, key_of
from drawnworks.errors import BadCount, Over


def fold(row, work, begin=0):
    """begin, then for each item work(so far, x)."""
    source = Source(row)
    so_far = begin
    while source.advance():
        so_far = work(so_far, source.fresh)
    return so_far


def everything(row):
    """A list of all items."""
    source = Source(row)
    told = []
    while source.advance():
        told.append(source.fresh)
    return told


def each(row, work):
    """Call work(x) for each item, and tell how many there were."""
    source = Source(row)
    many = 0
    while source.advance():
        work(source.fresh)
        many += 1
    return many


def count(row):
    """How many items there are."""
    source = Source(row)
    many = 0
    while source.advance():
        many += 1
    return many


def first(row, test=None, other=None):
    """The first x of which test(x) is True, of any if test is None; else other."""
    source = Source(row)
    while source.advance():
        if test is None or test(source.fresh):
            return source.fresh
    return other


def any_so(row, test):
    """Whether test(x) is True of any item."""
    source = Source(row)
    while source.advance():
        if test(source.fresh):
            return True
    return False


def all_so(row, test):
    """Whether test(x) is True of all items."""
    source = Source(row)
    while source.advance():
        if not test(source.fresh):
            return False
    return True


def least(row, key=None):
    """The first of the items with the least key."""
    source = Source(row)
    if not source.advance():
        raise Over("there is no item")
    best = source.fresh
    mark = key_of(best, key)
    while source.advance():
        new_mark = key_of(source.fresh, key)
        if new_mark < mark:
            best = source.fresh
            mark = new_mark
    return best


def tally(row, key=None):
    """(key, how many) for all keys, in the order in which they come."""
    source = Source(row)
    known = Keys()
    came = []
    many = []
    while source.advance():
        own = key_itself(source.fresh, key)
        mark = as_it_is(own)
        if not known.knows(mark):
            known.learn(mark)
            came.append((own, mark))
            many.append(0)
        many[known.place(mark)] += 1
    return [(as_it_came(own, mark), number) for (own, mark), number in zip(came, many)]


def as_it_came(own, mark):
    """The very key; but a work may have changed its list since: then what it was."""
    return own if own == mark else mark


def parted(row, test):
    """Two lists: the items of which test(x) is True, and the others."""
    source = Source(row)
    so = []
    others = []
    while source.advance():
        if test(source.fresh):
            so.append(source.fresh)
        else:
            others.append(source.fresh)
    return (so, others)


def columns(row, sides, gap=" "):
    """A text of all lists of texts, those at one place made alike in width."""
    lines = lines_for(row, sides)
    widths = [max([len(line[at]) for line in lines], default=0) for at in range(len(sides))]
    return "\n".join([gap.join(widened(line, sides, widths)) for line in lines])


def lines_for(row, sides):
    """All lists, refused as soon as one isn't of as many texts as there are sides."""
    if not all([side in ("l", "r", "0") for side in sides]):
        raise BadCount("a sign that is no side")
    source = Source(row)
    lines = []
    while source.advance():
        if len(source.fresh) != len(sides):
            raise BadCount("not as many texts as there are sides")
        # A copy, since a work may tell one list of its own again and again.
        lines.append(list(source.fresh))
    return lines


def widened(line, sides, widths):
    return [wide(text, side, width) for text, side, width in zip(line, sides, widths)]


def wide(text, side, width):
    if side == "l":
        return text.ljust(width)
    if side == "r":
        return text.rjust(width)
    # Not zfill, which would put the noughts behind a sign.
    return text.rjust(width, "0")
