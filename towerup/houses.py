"""Houses: objects of a kind that are made of things and programs."""

from towerup.basics import is_below, is_row, with_item
from towerup.contracts import Contract
from towerup.errors import BadHouse, NoSide, NoThing
from towerup.histories import greatest_results
from towerup.programs import Side
from towerup.shelf import LEAST_SIZE
from towerup.things import Atomic, Weak

MOST_THINGS = 4


class House:
    """A made object of a kind: its things, its contract, and the programs of its sides."""

    def __init__(self, kind, things, contract, sides):
        if not _are_things(things):
            raise BadHouse("things")
        if not _is_contract(kind, contract):
            raise BadHouse("contract")
        if not is_row(sides, contract.sides, contract.sides):
            raise BadHouse("sides")
        rules = contract.rules()
        if not all([_is_program(things, rules[side], side, program) for side, program in enumerate(sides)]):
            raise BadHouse("sides")
        self.kind = kind
        self.things = tuple(things)
        self.contract = contract
        self.sides = tuple(sides)
        self._places = {thing.name: at for at, thing in enumerate(self.things)}

    def __eq__(self, other):
        return (isinstance(other, House) and self.kind == other.kind and self.things == other.things
                and self.contract == other.contract and self.sides == other.sides)

    def __contains__(self, name):
        return isinstance(name, str) and name in self._places

    def thing(self, name):
        """The thing of this name."""
        return self.things[self.place_of(name)]

    def place_of(self, name):
        """The index of the thing of this name."""
        if name not in self:
            raise NoThing(name)
        return self._places[name]

    def with_things(self, things):
        """The same house with other things."""
        return House(self.kind, things, self.contract, self.sides)

    def with_contract(self, contract):
        """The same house with another contract."""
        return House(self.kind, self.things, contract, self.sides)

    def with_side(self, side, program):
        """The same house with another program of one side."""
        if not is_below(side, self.contract.sides):
            raise NoSide(side)
        return House(self.kind, self.things, self.contract, with_item(self.sides, side, program))


def plain(kind, contract):
    """The house in which each side does the work of each method by one call of an object of the kind."""
    if not _is_contract(kind, contract):
        raise BadHouse("contract")
    size = max([LEAST_SIZE, greatest_results(kind)])
    blocks = {name: [("call", "r", "x", name, "arg"), ("return", "r")] for name in kind.names()}
    return House(kind, [Atomic("x", kind)], contract, [Side({"r": (size, 0)}, blocks)] * contract.sides)


def _is_contract(kind, value):
    return isinstance(value, Contract) and value.kind == kind


def _are_things(things):
    if not is_row(things, 0, MOST_THINGS) or not all([isinstance(thing, (Atomic, Weak)) for thing in things]):
        return False
    return len({thing.name for thing in things}) == len(things)


def _is_program(things, rules, side, program):
    """Whether this is a program that a side with these rules can run over these things."""
    if not isinstance(program, Side):
        return False
    names = program.names()
    if not all([method in names for _, method in rules]):
        return False
    table = {thing.name: thing for thing in things}
    return all([_is_right_call(table, side, statement)
                for name in names
                for _, _, statement in program.walk(name) if statement[0] == "call"])


def _is_right_call(table, side, statement):
    _, _, name, method, _ = statement
    if name not in table or method not in table[name].kind:
        return False
    return not isinstance(table[name], Weak) or method == "get" or table[name].owner == side
