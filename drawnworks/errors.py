"""What Drawnworks refuses with.

The words of an error never show its value: a value may be any thing, also a
number that is too long to be written out.
"""


class DrawError(ValueError):
    """Any refusal."""


class Over(DrawError):
    """There is no item any more."""


class Halt(DrawError):
    """A work refused, and says why."""

    def __init__(self, why):
        super().__init__("a work refused")
        self.why = why


class Tired(DrawError):
    """A row was drawn as often as it may be."""

    def __init__(self, most):
        super().__init__("drawn as often as it may be")
        self.most = most


class NoMore(DrawError):
    """A row was drawn again and again for one item, in vain."""

    def __init__(self, tries):
        super().__init__("tried in vain")
        self.tries = tries


class BadCount(DrawError):
    """A number that is too little, or otherwise none that may be."""


class BadPlan(DrawError):
    """A plan with something in it that is no step."""

    def __init__(self, at):
        super().__init__("no step of a plan")
        self.at = at


class NoWork(DrawError):
    """A plan names a work that isn't there."""

    def __init__(self, name):
        super().__init__("no work of that name")
        self.name = name


class BadText(DrawError):
    """A text with a row in it that is no step."""

    def __init__(self, row):
        super().__init__("a row that is no step")
        self.row = row
