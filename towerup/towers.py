"""Towers: houses that do the work of the things of other houses."""

from towerup.basics import with_item
from towerup.blocks import MOST_DEPTH, MOST_STATEMENTS, inner_blocks, placed, way_fault
from towerup.errors import NoCompose
from towerup.houses import MOST_THINGS, House
from towerup.inlays import Inlay, calls_of_thing, new_names, returns_early
from towerup.programs import MOST_VARIABLES, Side
from towerup.steps import AHEAD, called_at
from towerup.things import Atomic, Weak
from towerup.verdicts import breaking
from towerup.walks import States, check_limit, check_many


def composed(outer, name, inner, *, limit=2000):
    """The house in which the programs of inner do the work of the atomic thing of outer with this name."""
    why = _unlike_reason(outer, name, inner)
    if why is not None:
        raise NoCompose(why)
    things = _joined_things(outer, name, inner)
    inlays = _inlays(outer, name, inner)
    why = _size_reason(things, inlays)
    if why is not None:
        raise NoCompose(why)
    check_limit(limit)
    if not _lets_all(outer, outer.place_of(name), inner.contract, limit):
        raise NoCompose("contract")
    sides = [Side(inlay.variables(), inlay.joined_blocks()) for inlay in inlays]
    return House(outer.kind, things, outer.contract, sides)


def stacked(outer, rows, *, limit=2000):
    """The houses of the pairs (name, house) composed into outer, one after the other."""
    if not rows:
        check_limit(limit)
    house = outer
    for name, inner in rows:
        house = composed(house, name, inner, limit=limit)
    return house


def layers(outer, rows, *, limit=2000):
    """The flags whether outer keeps its kind, and each house of the rows."""
    stacked(outer, rows, limit=limit)
    return _flags(outer, rows, limit)


def tower_breaking(outer, rows, *, limit=2000):
    """None if outer and all houses of the rows keep their kinds, otherwise breaking of the stacked house."""
    house = stacked(outer, rows, limit=limit)
    return None if all(_flags(outer, rows, limit)) else breaking(house, limit=limit)


def _flags(outer, rows, limit):
    houses = [outer] + [inner for _, inner in rows]
    return [breaking(house, limit=limit) is None for house in houses]


def _unlike_reason(outer, name, inner):
    """The first reason why the programs of inner cannot do the work of the thing, None if there is none."""
    if name not in outer or not isinstance(outer.thing(name), Atomic):
        return "thing"
    if inner.kind != outer.thing(name).kind:
        return "kind"
    if len(inner.sides) != len(outer.sides):
        return "sides"
    called = [(program, statement[3]) for host, program in zip(outer.sides, inner.sides)
              for _, statement in calls_of_thing(host, name)]
    if any([method in program.names() and returns_early(program.block(method)) for program, method in called]):
        return "return"
    return None if all([method in program.names() for program, method in called]) else "lacks"


def _size_reason(things, inlays):
    """The first reason why the joined programs cannot be programs of a house, None if there is none."""
    blocks = [block for inlay in inlays for block in inlay.joined_blocks().values()]
    # Nothing is dead: no statement of an inlay ends the call, and all others stand where they stood.
    if any([way_fault(block) is not None for block in blocks]):
        return "idle"
    if len(things) > MOST_THINGS or any([len(inlay.variables()) > MOST_VARIABLES for inlay in inlays]):
        return "many"
    return "many" if any([_is_great(block) for block in blocks]) else None


def _is_great(block):
    """Whether the block has more statements, or deeper ones, than a program may have."""
    rows = list(placed(block))
    deep = [statement for _, depth, _, statement in rows if depth >= MOST_DEPTH and inner_blocks(statement)]
    return len(rows) > MOST_STATEMENTS or len(deep) > 0


def _joined_things(outer, name, inner):
    """The things of outer without that one of this name, and behind them those of inner with new names."""
    kept = [thing for thing in outer.things if thing.name != name]
    names = _thing_names(outer, name, inner)
    return kept + [_renamed(thing, names[thing.name]) for thing in inner.things]


def _thing_names(outer, name, inner):
    taken = [thing.name for thing in outer.things if thing.name != name]
    return new_names("i", [thing.name for thing in inner.things], taken)


def _renamed(thing, name):
    if isinstance(thing, Atomic):
        return Atomic(name, thing.kind)
    return Weak(name, thing.word, thing.size, thing.start, owner=thing.owner)


def _inlays(outer, name, inner):
    names = _thing_names(outer, name, inner)
    return [Inlay(host, outer.thing(name), program, outer.kind, names)
            for host, program in zip(outer.sides, inner.sides)]


def _lets_all(outer, at, contract, limit):
    """Whether the contract lets each call of the thing with this index begin that comes, and none takes a wrong step.

    Pairs of a state and the modes of all sides are found until there are no more.
    """
    states = States(outer)
    found = [(0, (0,) * contract.sides)]
    met = {found[0]: True}
    lets = True
    done = 0
    while done < len(found):
        number, modes = found[done]
        calls = _calls_at(outer, at, states.tuple_of(number))
        let = [side for side in calls if calls[side][0] in contract.methods(side, modes[side])]
        if len(let) < len(calls) or () in [answers for _, answers in calls.values()]:
            lets = False
        for step, _, behind in states.ways(number):
            if step[0] in let or step[0] not in calls:
                pair = (behind, _modes_behind(contract, modes, calls, step))
                if pair not in met:
                    met[pair] = True
                    found.append(pair)
        check_many(len(found), limit)
        done += 1
    return lets


def _calls_at(house, at, state):
    """For each side that is ahead of a call of the thing with this index: (method, answers that may come)."""
    calls = {}
    for side, part in enumerate(state[0]):
        if part[1] == AHEAD:
            row, called, argument = called_at(house, state, side)
            if called == at:
                calls[side] = (row[3], house.things[at].kind.answers(state[1][at][0], row[3], argument))
    return calls


def _modes_behind(contract, modes, calls, step):
    """The modes of all sides behind a step; it does a call if its side is ahead of one."""
    side = step[0]
    if side not in calls:
        return modes
    method, answers = calls[side]
    return with_item(modes, side, contract.after(side, modes[side], method, answers[step[3]][0]))
