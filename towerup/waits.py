"""Waiting: how many steps calls take, and whether they can go on for ever."""

from towerup.basics import is_below, is_row
from towerup.errors import NoSide
from towerup.graphs import groups_of, way_to
from towerup.steps import AT_REST, initial, state_behind
from towerup.walks import all_states, check_limit


def longest(house, side, *, limit=2000):
    """The greatest number of steps of a call of the side in some run, None if there is none, 0 without a call."""
    states = _states_for(house, side, limit)
    most = _most_steps(_call_ways(states, side), side)
    if most is None:
        return None
    begins = [behind for rows in _all_ways(states) for step, _, behind in rows
              if step[0] == side and step[1] == "call"]
    return max([0] + [1 + most[behind] for behind in begins])


def alone(house, side, *, limit=2000):
    """The greatest number of steps of the side to the end of a call under way, if no other side takes a step."""
    states = _states_for(house, side, limit)
    own = [[row for row in rows if row[0][0] == side] for rows in _call_ways(states, side)]
    most = _most_steps(own, side)
    return None if most is None else max(most)


def endless(house, side, *, limit=2000):
    """None if longest is a number, otherwise a lasso in whose turn the side goes on with one call."""
    states = _states_for(house, side, limit)
    return _lasso(states, _call_ways(states, side), side)


def stalled(house, *, limit=2000):
    """None if each endless run tells results again and again, otherwise a lasso whose turn tells none."""
    check_limit(limit)
    states = all_states(house, limit)
    return _lasso(states, [[row for row in rows if row[0][1] != "told"] for rows in _all_ways(states)], None)


def lasso_fault(house, side, lasso):
    """None if the value is an answer of endless, for the side None one of stalled; otherwise why it is none."""
    if side is not None:
        _check_side(house, side)
    if not is_row(lasso, 2, 2) or not all([isinstance(steps, (list, tuple)) for steps in lasso]):
        return ("form",)
    lead, turn = lasso
    many, first = _walked(house, initial(house), lead)
    if many < len(lead):
        return ("lead", many)
    many, last = _walked(house, first, turn)
    if many < len(turn):
        return ("turn", many)
    if len(turn) == 0:
        return ("empty",)
    if last != first:
        return ("back",)
    return _turn_fault(turn, side)


def _check_side(house, side):
    if not is_below(side, house.contract.sides):
        raise NoSide(side)


def _states_for(house, side, limit):
    _check_side(house, side)
    check_limit(limit)
    return all_states(house, limit)


def _all_ways(states):
    """For each state its ways."""
    return [states.ways(number) for number in range(states.many())]


def _call_ways(states, side):
    """For each state its ways if the side has a call under way, otherwise none."""
    return [[] if states.tuple_of(number)[0][side][1] == AT_REST else rows
            for number, rows in enumerate(_all_ways(states))]


def _groups(ways):
    """The states in groups that lead to each other, each behind all to which it leads."""
    return groups_of([[behind for _, _, behind in rows] for rows in ways])


def _circle(ways, groups, side):
    """(state, step, state behind it) of a step of the side, of any for None, from which ways lead back; or None."""
    group_of = {number: at for at, group in enumerate(groups) for number in group}
    for number, rows in enumerate(ways):
        for step, _, behind in rows:
            if side in (None, step[0]) and group_of[number] == group_of[behind]:
                return (number, step, behind)
    return None


def _most_steps(ways, side):
    """For each state the greatest number of steps of the side along the ways, None if one has no greatest."""
    groups = _groups(ways)
    if _circle(ways, groups, side) is not None:
        return None
    most = [0] * len(ways)
    for group in groups:
        # Inside a group there are only steps of other sides, and no number is told as yet.
        best = max([0] + [most[behind] + (1 if step[0] == side else 0)
                          for number in group for step, _, behind in ways[number]])
        for number in group:
            most[number] = best
    return most


def _lasso(states, ways, side):
    """A lasso whose turn goes along the ways and has a step of the side, of any for None; None if there is none."""
    circle = _circle(ways, _groups(ways), side)
    if circle is None:
        return None
    number, step, behind = circle
    return (_steps_between(_all_ways(states), 0, number), [step] + _steps_between(ways, behind, number))


def _steps_between(ways, first, last):
    """The steps of a shortest way from one state to another one, to which there is one."""
    came = {first: None}
    found = [first]
    at = 0
    while last not in came:
        number = found[at]
        for step, _, behind in ways[number]:
            if behind not in came:
                came[behind] = (number, step)
                found.append(behind)
        at += 1
    return way_to(came, last)


def _walked(house, state, steps):
    """How many of the steps are possible from a state, one behind the other, and the state behind these."""
    for index, step in enumerate(steps):
        behind = state_behind(house, state, step)
        if behind is None:
            return (index, state)
        state = behind
    return (len(steps), state)


def _turn_fault(turn, side):
    """What is wrong with possible steps as those of a turn."""
    own = [step for step in turn if side in (None, step[0])]
    if "told" in [step[1] for step in own]:
        return ("told",)
    return None if own else ("side",)
