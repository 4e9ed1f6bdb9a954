"""Things: what houses are made of."""

from towerup.basics import is_below, is_between, is_name
from towerup.errors import BadThing
from towerup.histories import MOST_SIDES
from towerup.kinds import Kind
from towerup.shelf import GREATEST_SIZE, LEAST_SIZE, cell

WORDS = ("safe", "regular")


class Atomic:
    """An object of a kind; a call of it is one step."""

    def __init__(self, name, kind):
        if not is_name(name):
            raise BadThing("name")
        if not isinstance(kind, Kind):
            raise BadThing("kind")
        self.name = name
        self.kind = kind

    def __eq__(self, other):
        return isinstance(other, Atomic) and self.name == other.name and self.kind == other.kind


class Weak:
    """A cell that its owner sets and all sides get; a call of it has a start and a finish."""

    def __init__(self, name, word, size, start=0, *, owner=0):
        if not is_name(name):
            raise BadThing("name")
        if word not in WORDS:
            raise BadThing("word")
        if not is_between(size, LEAST_SIZE, GREATEST_SIZE):
            raise BadThing("size")
        if not is_below(start, size):
            raise BadThing("start")
        if not is_below(owner, MOST_SIDES):
            raise BadThing("owner")
        self.name = name
        self.word = word
        self.size = size
        self.start = start
        self.owner = owner
        self.kind = cell(size, start)

    def __eq__(self, other):
        return (isinstance(other, Weak) and self.name == other.name and self.word == other.word
                and self.kind == other.kind and self.owner == other.owner)
