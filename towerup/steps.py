"""Steps: how a house runs."""

from towerup.basics import is_integer, is_row, with_item
from towerup.flows import END, first_place, place_behind, value_of, with_value
from towerup.things import Atomic

AT_REST = 0
AHEAD = 1
BETWEEN = 2
TELLING = 3


def initial(house):
    """The first state of the house."""
    parts = [_rest(0, tuple([start for _, _, start in program.store])) for program in house.sides]
    return (tuple(parts), tuple([_first_stuff(house, thing) for thing in house.things]))


def moves(house, state):
    """All pairs of a step that is possible, without wrong ones, and the state behind it, ascending."""
    found = []
    for side, part in enumerate(state[0]):
        if part[1] == AT_REST:
            found = found + _begun(house, state, side)
        elif part[1] == AHEAD:
            found = found + _ahead(house, state, side)
        elif part[1] == BETWEEN:
            found = found + _finished(house, state, side)
        else:
            found = found + _told(house, state, side)
    return found


def wrongs(house, state):
    """The ascending list of the sides that can take a wrong step."""
    return [side for side, part in enumerate(state[0]) if part[1] == AHEAD and _is_stuck(house, state, side)]


def event_of(step):
    """The event of a step that begins or ends a call, None for another step."""
    side, word, method, number = step
    if word == "call":
        return ("call", side, method, number)
    return ("told", side, number) if word == "told" else None


def wrong_step(side):
    """The wrong step of a side."""
    return (side, "wrong", "", -1)


def choices_at(house, state):
    """All pairs of a possible step, wrong ones too, and the state behind it, None behind a wrong one; ascending.

    No step is possible at the state None.
    """
    if state is None:
        return []
    wrong = [(wrong_step(side), None) for side in wrongs(house, state)]
    return sorted(moves(house, state) + wrong, key=lambda row: row[0])


def state_behind(house, state, value):
    """The state behind a move; None if the value is no row of a step that is possible, or of a wrong one."""
    taken = as_step(value)
    for step, behind in moves(house, state):
        if step == taken:
            return behind
    return None


def called_at(house, state, side):
    """The row of the call at which the side is, the index of the thing, and the argument."""
    _, _, method, argument, place, values, _ = state[0][side]
    row = house.sides[side].flow(method)[place]
    at = house.place_of(row[2])
    value = value_of(house.sides[side], row[4], values, argument)
    return row, at, value % house.things[at].kind.arguments(row[3])


def as_step(value):
    """The value as a tuple, if it is a row of a side, two words and a number; otherwise None."""
    if not is_row(value, 4, 4) or not is_integer(value[0]) or not is_integer(value[3]):
        return None
    return tuple(value) if isinstance(value[1], str) and isinstance(value[2], str) else None


def _rest(mode, values):
    return (mode, AT_REST, "", -1, -1, values, -1)


def _first_stuff(house, thing):
    if isinstance(thing, Atomic):
        return (thing.kind.start,)
    return (thing.start, -1, ((),) * len(house.sides))


def _with_part(state, side, part):
    return (with_item(state[0], side, part), state[1])


def _with_stuff(state, at, stuff):
    return (state[0], with_item(state[1], at, stuff))


def _begun(house, state, side):
    """The moves of a side at rest."""
    mode, _, _, _, _, values, _ = state[0][side]
    found = []
    for method in house.contract.methods(side, mode):
        place = first_place(house.sides[side].flow(method))
        for argument in range(house.kind.arguments(method)):
            part = _gone_on(house, side, (mode, method, argument), place, values)
            found.append(((side, "call", method, argument), _with_part(state, side, part)))
    return found


def _ahead(house, state, side):
    """The moves of a side ahead of a call of a thing."""
    row, at, argument = called_at(house, state, side)
    thing, before = house.things[at], state[1][at]
    if isinstance(thing, Atomic):
        answers = thing.kind.answers(before[0], row[3], argument)
        return [((side, "do", "", index), _behind(house, _with_stuff(state, at, (after,)), side, result))
                for index, (result, after) in enumerate(answers)]
    stuff = _set_started(thing, before, argument) if row[3] == "set" else _get_started(thing, before, side)
    part = with_item(state[0][side], 1, BETWEEN)
    return [((side, "start", "", -1), _with_part(_with_stuff(state, at, stuff), side, part))]


def _finished(house, state, side):
    """The moves of a side that finishes a call of a weak cell."""
    row, at, _ = called_at(house, state, side)
    value, under, seens = state[1][at]
    if row[3] == "set":
        behind = _behind(house, _with_stuff(state, at, (under, -1, seens)), side, 0)
        return [((side, "finish", "", -1), behind)]
    told = (value,) if house.things[at].owner == side else seens[side]
    ended = _with_stuff(state, at, (value, under, with_item(seens, side, ())))
    return [((side, "finish", "", result), _behind(house, ended, side, result)) for result in told]


def _told(house, state, side):
    """The move of a side that tells its result."""
    mode, _, method, _, _, values, told = state[0][side]
    part = _rest(house.contract.after(side, mode, method, told), values)
    return [((side, "told", "", told), _with_part(state, side, part))]


def _is_stuck(house, state, side):
    """Whether a side ahead of a call of a thing can only take a wrong step."""
    row, at, argument = called_at(house, state, side)
    thing = house.things[at]
    return isinstance(thing, Atomic) and not thing.kind.answers(state[1][at][0], row[3], argument)


def _behind(house, state, side, result):
    """The state behind a call of a thing that told the side this result."""
    mode, _, method, argument, place, values, _ = state[0][side]
    program = house.sides[side]
    _, local, _, _, _, behind = program.flow(method)[place]
    kept = with_value(program, values, local, result)
    return _with_part(state, side, _gone_on(house, side, (mode, method, argument), behind, kept))


def _gone_on(house, side, call, place, values):
    """The part of a side that goes on by itself from a place of its call to a call of a thing, or to its end."""
    mode, method, argument = call
    program = house.sides[side]
    flow = program.flow(method)
    told = 0
    while place != END:
        row = flow[place]
        if row[0] == "call":
            return (mode, AHEAD, method, argument, place, values, -1)
        if row[0] == "return":
            told = value_of(program, row[1], values, argument) % house.kind.results(method)
            place = END
        elif row[0] == "set":
            values = with_value(program, values, row[1], value_of(program, row[2], values, argument))
            place = row[3]
        else:
            place = place_behind(program, row, values, argument)
    return (mode, TELLING, method, argument, END, values, told)


def _set_started(thing, stuff, argument):
    """A set begins: what it sets joins what the gets under way may tell."""
    value, _, seens = stuff
    return (value, argument, tuple([_joined(thing, seen, argument) if seen else () for seen in seens]))


def _get_started(thing, stuff, side):
    """A get begins: it may tell the value, and what joins by a set under way."""
    value, under, seens = stuff
    if thing.owner == side:
        return stuff
    seen = (value,) if under == -1 else _joined(thing, (value,), under)
    return (value, under, with_item(seens, side, seen))


def _joined(thing, seen, argument):
    """What a get may tell when a set of the argument overlaps it."""
    if thing.word == "safe":
        return tuple(range(thing.size))
    return tuple(sorted(set(seen + (argument,))))
