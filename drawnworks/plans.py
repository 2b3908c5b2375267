"""Plans of rows: made into rows, and made shorter."""

from drawnworks.core import Row
from drawnworks.errors import NoWork
from drawnworks.stages import kept, mapped, numbered, once, parcels, past, skipped, taken, until, windows
from drawnworks.steps import GREATEST, NAMED, check_plan


def made(plan, row, works):
    """The row that comes of a row by a plan, its first step innermost."""
    check_plan(plan)
    check_works(plan, works)
    if not plan:
        return unchanged(row)
    for step in plan:
        row = with_step(row, step, works)
    return row


def check_works(plan, works):
    """Refuse a plan that names a work that isn't there."""
    for step in plan:
        if step[0] in NAMED and step[1] not in works:
            raise NoWork(step[1])


def unchanged(row):
    """A row of its own, so that no steps and steps that come to none are alike."""

    def tell():
        return row.draw()

    return Row(tell)


def with_step(row, step, works):
    word = step[0]
    if word == "once":
        return once(row)
    if word in NAMED:
        return by_work(row, word, works[step[1]])
    return by_number(row, word, step[1])


def by_work(row, word, work):
    if word == "map":
        return mapped(row, work)
    if word == "keep":
        return kept(row, work)
    if word == "until":
        return until(row, work)
    return past(row, work)


def by_number(row, word, number):
    if word == "take":
        return taken(row, number)
    if word == "skip":
        return skipped(row, number)
    if word == "number":
        return numbered(row, number)
    if word == "parcel":
        return parcels(row, number)
    return windows(row, number)


def shorter(plan):
    """A plan that does the same, by rules that are used until none fits."""
    check_plan(plan)
    steps = list(plan)
    changed = by_one_rule(steps)
    while changed is not None:
        steps = changed
        changed = by_one_rule(steps)
    return steps


def by_one_rule(steps):
    """The steps behind a rule's use at the first place that fits; None if none does."""
    if steps and steps[0] == ("skip", 0):
        return steps[1:]
    for at in range(len(steps) - 1):
        joined = of_neighbours(steps[at], steps[at + 1])
        if joined is not None:
            return steps[:at] + joined + steps[at + 2:]
    return None


def of_neighbours(one, other):
    """What two neighbours become by the first rule that fits; None if none does."""
    words = (one[0], other[0])
    if other == ("skip", 0):
        return [one]
    if words == ("take", "take"):
        return [("take", min(one[1], other[1]))]
    if one == ("take", 0):
        return [one]
    if words == ("skip", "skip"):
        return of_skips(one[1], other[1])
    if words == ("take", "skip"):
        return of_take_and_skip(one[1], other[1])
    if words == ("once", "once"):
        return [one]
    if words == ("number", "take"):
        return [other, one]
    if words == ("number", "skip"):
        return of_number_and_skip(one[1], other[1])
    return None


def of_skips(m, n):
    return [("skip", m + n)] if m + n <= GREATEST else None


def of_take_and_skip(m, n):
    return [("skip", n), ("take", m - n)] if n < m else None


def of_number_and_skip(m, n):
    return [("skip", n), ("number", m + n)] if m + n <= GREATEST else None
