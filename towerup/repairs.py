"""Repairs: other things, statements that can be left out, and calls that can be let."""

from towerup.basics import is_row
from towerup.contracts import only
from towerup.errors import BadHouse, BadOptions, BadSide, Broken, TooMany
from towerup.things import Atomic, Weak
from towerup.verdicts import breaking
from towerup.walks import check_limit

MOST_OPTIONS = 4
MOST_CHOICES = 64
MOST_PAIRS = 6


def right_choices(house, options, *, limit=2000):
    """All choices of things, one of each row of the options, with which the house keeps its kind."""
    _check_options(house, options)
    names = sorted(options)
    choices = [()]
    for name in names:
        choices = [choice + (at,) for choice in choices for at in range(len(options[name]))]
    if len(choices) > MOST_CHOICES:
        raise TooMany(MOST_CHOICES)
    check_limit(limit)
    rows = [options[name] for name in names]
    return [choice for choice in choices
            if _keeps(_with_things(house, [row[at] for row, at in zip(rows, choice)]), limit)]


def least_choices(house, options, *, limit=2000):
    """The right choices below which no other right choice is."""
    right = right_choices(house, options, limit=limit)
    return [choice for choice in right if not any([_is_below(other, choice) for other in right])]


def spare_places(house, *, limit=2000):
    """All (side, method, place) such that the house keeps its kind without the statement there."""
    check_limit(limit)
    if not _keeps(house, limit):
        raise Broken()
    return [place for place in _all_places(house) if _is_spare(house, place, limit)]


def lets(house, *, limit=2000):
    """All greatest lots of pairs (side, method) such that the house keeps its kind if just these calls are let."""
    contract = house.contract
    pairs = [(side, method) for side in range(contract.sides) for method in contract.methods(side, 0)]
    if len(pairs) > MOST_PAIRS:
        raise TooMany(MOST_CHOICES)
    check_limit(limit)
    right = [lot for lot in _all_lots(pairs) if _keeps(house.with_contract(_only_lot(contract, lot)), limit)]
    return [lot for lot in right if not any([_is_part(lot, other) for other in right])]


def _keeps(house, limit):
    return breaking(house, limit=limit) is None


def _check_options(house, options):
    if not isinstance(options, dict) or not all([isinstance(name, str) for name in options]):
        raise BadOptions(None)
    for name in sorted(options):
        if name not in house or not is_row(options[name], 1, MOST_OPTIONS):
            raise BadOptions(name)
        if not all([_is_option(house, name, thing) for thing in options[name]]):
            raise BadOptions(name)


def _is_option(house, name, thing):
    """Whether the thing can stand in the house in the place of the one of this name."""
    if not isinstance(thing, (Atomic, Weak)) or thing.name != name or thing.kind != house.thing(name).kind:
        return False
    try:
        _with_things(house, [thing])
    except BadHouse:
        return False
    return True


def _with_things(house, things):
    """The house with these things in the place of those of their names."""
    table = {thing.name: thing for thing in things}
    return house.with_things([table.get(thing.name, thing) for thing in house.things])


def _is_below(one, other):
    """Whether no index of one choice is greater than that of the other one, and some is less."""
    return one != other and all([left <= right for left, right in zip(one, other)])


def _all_places(house):
    return [(side, method, place)
            for side, program in enumerate(house.sides)
            for method in program.names()
            for place, _, _ in program.walk(method)]


def _is_spare(house, place, limit):
    side, method, at = place
    try:
        program = house.sides[side].without(method, at)
    except BadSide:
        return False
    return _keeps(house.with_side(side, program), limit)


def _all_lots(pairs):
    """All ascending tuples of some of the pairs, ascending."""
    found = [()]
    for pair in pairs:
        found = found + [lot + (pair,) for lot in found]
    return sorted(found)


def _only_lot(contract, lot):
    """The contract in which each side has one mode and may call its methods of the lot."""
    return only(contract.kind, [[method for own, method in lot if own == side] for side in range(contract.sides)])


def _is_part(lot, other):
    """Whether the other lot has all calls of this one, and more."""
    return lot != other and all([pair in other for pair in lot])
