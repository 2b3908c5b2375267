"""What all rows share: the row itself, what it is made of, numbers and keys."""

from drawnworks.errors import BadCount, Over


class Row:
    """A row. tell() tells its next item or refuses; behind Over it isn't called."""

    def __init__(self, tell):
        self.tell = tell
        self.over = False

    def draw(self):
        if self.over:
            raise Over("the row is over")
        try:
            return self.tell()
        except Over:
            self.over = True
            raise


class Source:
    """A row that something is made of; once it is over it isn't drawn any more."""

    def __init__(self, row):
        self.row = row
        self.ended = False
        self.fresh = None

    def advance(self):
        """Draw the next item into fresh; False if there is none any more."""
        if self.ended:
            return False
        try:
            self.fresh = self.row.draw()
        except Over:
            self.ended = True
            return False
        return True


def at_least(number, least):
    """Refuse a number that is too little."""
    if number < least:
        raise BadCount("a number is too little")


def key_of(x, key):
    """The key of x, as it is now."""
    return as_it_is(key_itself(x, key))


def key_itself(x, key):
    """key(x), or x itself if there is no work for it."""
    if key is None:
        return x
    return key(x)


def as_it_is(key):
    """A copy, since whoever has the lists within a key may change them later."""
    if isinstance(key, list):
        return [as_it_is(part) for part in key]
    if isinstance(key, tuple):
        return tuple([as_it_is(part) for part in key])
    if isinstance(key, dict):
        return {name: as_it_is(key[name]) for name in key}
    return key


def is_plain(key, deep=8):
    """Whether it can be looked up in a dict: no lists, tuples not nested deeper."""
    if isinstance(key, tuple):
        return deep > 0 and all([is_plain(part, deep - 1) for part in key])
    return key is None or isinstance(key, (int, str, bytes))


class Keys:
    """Keys of any kind, each at its place, from 0, in the order in which they came.

    Plain ones stand apart, since they are found much faster."""

    def __init__(self):
        self.plain = {}
        self.others = []
        self.places_of_others = []

    def knows(self, key):
        if is_plain(key):
            return key in self.plain
        return key in self.others

    def place(self, key):
        if is_plain(key):
            return self.plain[key]
        return self.places_of_others[self.others.index(key)]

    def learn(self, key):
        new_place = len(self.plain) + len(self.others)
        if is_plain(key):
            self.plain[key] = new_place
        else:
            self.others.append(key)
            self.places_of_others.append(new_place)
