"""Plans as texts."""

from drawnworks.errors import BadText
from drawnworks.steps import check_plan, is_step


def written(plan):
    """A row for each step: its word and its name or number."""
    check_plan(plan)
    return "\n".join([" ".join([str(part) for part in step]) for step in plan])


def read(text):
    """The plan that is written so."""
    if text == "":
        return []
    steps = [step_of(row) for row in text.split("\n")]
    for at, step in enumerate(steps):
        if not is_step(step):
            raise BadText(at)
    check_plan(steps)
    return steps


def step_of(row):
    """The parts of a row, each as a number if it is written as one."""
    return tuple([int(part) if is_figures(part) else part for part in row.split(" ")])


def is_figures(part):
    """Whether it is one or two figures, none of them needless."""
    if not 1 <= len(part) <= 2 or not all([sign in "0123456789" for sign in part]):
        return False
    return part == "0" or part[0] != "0"
