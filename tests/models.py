"""Slow models of rows, by which the true ones are checked.

A model is a generator without end. It tells what each draw comes to: ("item", x),
("no", error), or ENDED, which it tells for ever from then on. A model of an end takes
such a row, and is refused by raising Refusal around the error.
"""

import functools
import itertools

from drawnworks.errors import Halt, NoMore, Over, Tired

ENDED = ("over",)


def ended():
    while True:
        yield ENDED


def of_script(events, log, name):
    for event in events:
        log.append(name)
        yield ("no", event) if isinstance(event, Exception) else ("item", event)
    log.append(name)
    yield from ended()


def done(work, *things):
    """What comes of calling a work."""
    try:
        return ("item", work(*things))
    except Exception as error:
        return ("no", error)


def of_mapped(row, work):
    for come in row:
        yield done(work, come[1]) if come[0] == "item" else come


def of_kept(row, test):
    for come in row:
        kept = done(test, come[1]) if come[0] == "item" else come
        if kept[0] != "item":
            yield kept
        elif kept[1]:
            yield come


def of_taken(row, many):
    while many > 0:
        come = next(row)
        many -= come[0] == "item"
        yield come
    yield from ended()


def of_skipped(row, many):
    for come in row:
        if come[0] != "item" or many == 0:
            yield come
        else:
            many -= 1


def of_until(row, test):
    for come in row:
        met = done(test, come[1]) if come[0] == "item" else come
        if met[0] == "item" and not met[1]:
            break
        yield come if met[0] == "item" else met
    yield from ended()


def of_past(row, test):
    for come in row:
        met = done(test, come[1]) if come[0] == "item" else come
        if met[0] != "item":
            yield met
        elif not met[1]:
            yield come
            yield from row


def of_numbered(row, begin):
    for come in row:
        yield ("item", (begin, come[1])) if come[0] == "item" else come
        begin += come[0] == "item"


def of_parcels(row, many):
    parcel = []
    for come in row:
        if come == ENDED:
            break
        parcel += [come[1]] if come[0] == "item" else []
        if come[0] != "item" or len(parcel) == many:
            yield come if come[0] != "item" else ("item", parcel)
            parcel = parcel if come[0] != "item" else []
    yield from [("item", parcel)] if parcel else []
    yield from ended()


def of_windows(row, many):
    seen = []
    for come in row:
        seen += [come[1]] if come[0] == "item" else []
        if come[0] != "item":
            yield come
        elif len(seen) >= many:
            yield ("item", seen[-many:])


def of_scanned(row, work, begin):
    yield ("item", begin)
    for come in row:
        come = done(work, begin, come[1]) if come[0] == "item" else come
        begin = come[1] if come[0] == "item" else begin
        yield come


def of_once(row, key):
    told = []
    for come in row:
        mark = done(key, come[1]) if come[0] == "item" else come
        if mark[0] != "item":
            yield mark
        elif mark not in told:
            told.append(mark)
            yield come


def of_runs(row, key):
    run, alike = [], None
    for come in row:
        mark = done(key, come[1]) if come[0] == "item" else come
        if come == ENDED:
            break
        if mark[0] != "item":
            yield mark
            continue
        if run and mark != alike:
            yield ("item", run)
            run = []
        run, alike = run + [come[1]], mark
    yield from [("item", run)] if run else []
    yield from ended()


def of_pairs(one, other):
    for left in one:
        right = next(other) if left[0] == "item" else left
        if right == ENDED:
            break
        yield ("item", (left[1], right[1])) if right[0] == "item" else right
    yield from ended()


def of_chained(rows):
    for row in rows:
        yield from itertools.takewhile(lambda come: come != ENDED, row)
    yield from ended()


def of_in_turn(rows):
    rows = list(rows)
    while rows:
        row = rows.pop(0)
        come = next(row)
        while come[0] == "no":
            yield come
            come = next(row)
        if come != ENDED:
            rows.append(row)
            yield come
    yield from ended()


def of_merged(one, other, key):
    rows, waits = [one, other], [None, None]
    while waits != [ENDED, ENDED]:
        refused = None
        for side in (0, 1):
            if waits[side] is None and refused is None:
                come = next(rows[side])
                mark = done(key, come[1]) if come[0] == "item" else come
                if mark[0] == "no":
                    refused = mark
                else:
                    waits[side] = ENDED if come == ENDED else (mark[1], side, come)
        if refused is not None:
            yield refused
        elif waits != [ENDED, ENDED]:
            _, side, come = min((one for one in waits if one != ENDED), key=lambda one: one[:2])
            waits[side] = None
            yield come
    yield from ended()


def of_split(row, many):
    queues, over = [[] for _ in range(many)], []

    def one_of(own):
        while True:
            come = ("item", own.pop(0)) if own else ENDED if over else draw_for(own)
            if come == ENDED:
                over.append(True)
            yield come

    def draw_for(own):
        come = next(row)
        for queue in queues:
            if queue is not own and come[0] == "item":
                queue.append(come[1])
        return come
    return [one_of(queue) for queue in queues]


def of_memory(row):
    """Two replays of one memory."""
    known, over = [], []

    def replay():
        at = 0
        while True:
            come = ("item", known[at]) if at < len(known) else ENDED if over else next(row)
            if come == ENDED:
                over.append(True)
            elif come[0] == "item":
                known[at:at + 1] = [come[1]]
                at += 1
            yield come
    return [replay(), replay()]


def of_watched(row, note):
    come = None
    while come != ENDED:
        note("ask", None)
        come = next(row)
        if come[0] == "no" and isinstance(come[1], Halt):
            note("halt", come[1].why)
        elif come[0] != "no":
            note(come[0], (come + (None,))[1])
        yield come
    yield from ended()


def is_halt(come):
    return come[0] == "no" and isinstance(come[1], Halt)


def of_again(row, times):
    while True:
        come = next(row)
        for _ in range(times):
            come = next(row) if is_halt(come) else come
        yield ("no", NoMore(times + 1)) if is_halt(come) else come
        if come == ENDED:
            yield from ended()


def of_instead(row, other):
    for come in row:
        if is_halt(come):
            yield from other
        yield come


def of_limited(row, most):
    for come in itertools.islice(row, most):
        yield come
        if come == ENDED:
            yield from ended()
    while True:
        yield ("no", Tired(most))


class Refusal(Exception):
    pass


def value(come):
    if come[0] == "no":
        raise Refusal(come[1])
    return come[1]


def items_of(row):
    for come in row:
        if come == ENDED:
            return
        yield value(come)


def by_work(row, work):
    """(x, what the work told of it), for each item."""
    for x in items_of(row):
        yield x, value(done(work, x))


def end_fold(row, work, begin):
    return functools.reduce(lambda so_far, x: value(done(work, so_far, x)), items_of(row), begin)


def end_everything(row):
    return list(items_of(row))


def end_each(row, work):
    return len(list(by_work(row, work)))


def end_count(row):
    return len(list(items_of(row)))


def end_first(row, test, other):
    return next((x for x, so in by_work(row, test) if so), other)


def end_any_so(row, test):
    return any(so for _, so in by_work(row, test))


def end_all_so(row, test):
    return all(so for _, so in by_work(row, test))


def end_least(row, key):
    marks = [(mark, at, x) for at, (x, mark) in enumerate(by_work(row, key))]
    if not marks:
        raise Refusal(Over())
    return sorted(marks, key=lambda one: one[:2])[0][2]


def end_tally(row, key):
    marks = [mark for _, mark in by_work(row, key)]
    return [(mark, marks.count(mark)) for at, mark in enumerate(marks) if mark not in marks[:at]]


def end_parted(row, test):
    told = list(by_work(row, test))
    return [x for x, so in told if so], [x for x, so in told if not so]
