"""The errors of Towerup: each stands directly under TowerError."""


class TowerError(ValueError):
    """What every error of Towerup is."""


class BadLimit(TowerError):
    """The limit is not an integer from 1 to 4000."""


class TooMany(TowerError):
    """There are more than `limit` of the things that are counted."""

    def __init__(self, limit):
        self.limit = limit


class BadKind(TowerError):
    """A kind cannot be made: `part` is the first argument that is wrong."""

    def __init__(self, part):
        self.part = part


class NoMethod(TowerError):
    """There is no such method."""

    def __init__(self, method):
        self.method = method


class NoState(TowerError):
    """There is no such state."""

    def __init__(self, state):
        self.state = state


class NoArgument(TowerError):
    """The method has no such argument."""

    def __init__(self, argument):
        self.argument = argument


class BadSetting(TowerError):
    """A kind of the shelf cannot be made: `part` is the first argument that is wrong."""

    def __init__(self, part):
        self.part = part


class BadJoin(TowerError):
    """Kinds or calls cannot be joined: `part` is the reason."""

    def __init__(self, part):
        self.part = part


class BadCalls(TowerError):
    """The element at `index` is no call of the kind; -1: there is no row of calls."""

    def __init__(self, index):
        self.index = index


class Unlike(TowerError):
    """Two things have other methods, numbers or sides and cannot be compared."""


class BadSides(TowerError):
    """The number of sides is not an integer from 1 to 3."""


class BadHistory(TowerError):
    """The event at `index` cannot stand there; -1: there is no row of events."""

    def __init__(self, index):
        self.index = index


class BadEvent(TowerError):
    """The event cannot come behind the lot."""


class NoCall(TowerError):
    """The side has no call under way."""

    def __init__(self, side):
        self.side = side


class NotQuiet(TowerError):
    """A call is under way."""


class NoOrder(TowerError):
    """The history has no order."""


class BadContract(TowerError):
    """The rules of `side` are wrong; -1: there is no row of rules."""

    def __init__(self, side):
        self.side = side


class NoSide(TowerError):
    """There is no such side."""

    def __init__(self, side):
        self.side = side


class NoMode(TowerError):
    """There is no such mode."""

    def __init__(self, mode):
        self.mode = mode


class NoResult(TowerError):
    """The method has no such result."""

    def __init__(self, result):
        self.result = result


class BadThing(TowerError):
    """A thing cannot be made: `part` is the first argument that is wrong."""

    def __init__(self, part):
        self.part = part


class BadSide(TowerError):
    """The program of a side is wrong at this place of this method."""

    def __init__(self, method, place, why):
        self.method = method
        self.place = place
        self.why = why


class NoPlace(TowerError):
    """The method has no statement at this place."""

    def __init__(self, place):
        self.place = place


class BadHouse(TowerError):
    """A house cannot be made: `part` is the first argument that is wrong."""

    def __init__(self, part):
        self.part = part


class NoThing(TowerError):
    """The house has no thing of this name."""

    def __init__(self, name):
        self.name = name


class BadStep(TowerError):
    """The step at `index` is not possible; -1: there is no row of steps."""

    def __init__(self, index):
        self.index = index


class NoStep(TowerError):
    """There is no step to take back."""


class BadNumbers(TowerError):
    """The value is not a row of integers."""


class Broken(TowerError):
    """The house does not keep its kind."""


class NoCompose(TowerError):
    """Two houses cannot be composed: `why` is the first reason."""

    def __init__(self, why):
        self.why = why


class BadOptions(TowerError):
    """The options for the thing of this name are wrong; None: all of them."""

    def __init__(self, name):
        self.name = name


class BadText(TowerError):
    """The text is wrong in this line, counted from 1; 0: it is no text."""

    def __init__(self, line):
        self.line = line
