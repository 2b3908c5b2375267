"""What a step of a plan is, and what a plan is."""

from drawnworks.errors import BadPlan

NAMED = ("map", "keep", "until", "past")
FROM_NOUGHT = ("take", "skip", "number")
FROM_ONE = ("parcel", "window")
MOST_STEPS = 40
MOST_LETTERS = 6
GREATEST = 99


def check_plan(plan):
    """Refuse a plan with something in it that is no step, or with too many."""
    for at, step in enumerate(plan):
        if at >= MOST_STEPS or not is_step(step):
            raise BadPlan(at)


def is_step(step):
    if step == ("once",):
        return True
    if not isinstance(step, tuple) or len(step) != 2:
        return False
    word, argument = step
    if word in NAMED:
        return is_name(argument)
    if word in FROM_NOUGHT:
        return is_number(argument, 0)
    if word in FROM_ONE:
        return is_number(argument, 1)
    return False


def is_name(thing):
    if not isinstance(thing, str) or not 1 <= len(thing) <= MOST_LETTERS:
        return False
    return all(["a" <= sign <= "z" for sign in thing])


def is_number(thing, least):
    # True and False are no numbers here, though Python takes them for such.
    if not isinstance(thing, int) or isinstance(thing, bool):
        return False
    return least <= thing <= GREATEST
