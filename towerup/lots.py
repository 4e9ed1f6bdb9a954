"""Lots: all in which a machine and its callers may be behind a history."""

from towerup.basics import is_below, with_item
from towerup.errors import BadEvent, NoCall, NotQuiet
from towerup.histories import check_sides, greatest_results, is_call, is_told, under_way, under_way_along


def first_lot(kind, sides):
    """The lot of the empty history."""
    check_sides(sides)
    return ((kind.start, ((0,),) * sides),)


def lot_behind(kind, sides, lot, event):
    """The lot one event later."""
    check_sides(sides)
    if not _can_come(kind, sides, lot, event):
        raise BadEvent()
    return _moved(kind, lot, event)


def lot(kind, sides, history):
    """All configurations (state, statuses) that are possible behind the history."""
    return _lots_along(kind, sides, history)[-1]


def fault(kind, sides, history):
    """The index of the first event that cannot be explained, None if all can."""
    for index, behind in enumerate(_lots_along(kind, sides, history)):
        if len(behind) == 0:
            return index - 1
    return None


def tellable(kind, sides, history, side):
    """The results that the side may be told next."""
    row = under_way(kind, sides, history)
    if not is_below(side, sides) or row[side] is None:
        raise NoCall(side)
    return tellable_in(lot(kind, sides, history), side)


def tellable_in(behind, side):
    """The results that the side will tell in some configuration of a lot."""
    own = [statuses[side] for _, statuses in behind]
    return sorted({status[1] for status in own if status[0] == 2})


def states_at(kind, sides, history):
    """The states in which the machine may be while no call is under way."""
    if under_way(kind, sides, history) != (None,) * sides:
        raise NotQuiet()
    return tuple(sorted({state for state, _ in lot(kind, sides, history)}))


def _can_come(kind, sides, before, event):
    if is_call(kind, sides, event):
        return all([statuses[event[1]] == (0,) for _, statuses in before])
    if not is_told(sides, event, greatest_results(kind)):
        return False
    return all([statuses[event[1]] != (0,) for _, statuses in before])


def _lots_along(kind, sides, history):
    """The lot ahead of all events, and behind each one."""
    under_way_along(kind, sides, history)
    lots = [first_lot(kind, sides)]
    for event in history:
        lots.append(_moved(kind, lots[-1], event))
    return lots


def _moved(kind, before, event):
    if event[0] == "call":
        return _behind_call(kind, before, event[1], (1, event[2], event[3]))
    return _behind_told(before, event[1], (2, event[2]))


def _behind_call(kind, before, side, begun):
    found = [(state, with_item(statuses, side, begun)) for state, statuses in before]
    return _settled(kind, found)


def _behind_told(before, side, ended):
    return tuple(sorted([(state, with_item(statuses, side, (0,)))
                         for state, statuses in before if statuses[side] == ended]))


def _settled(kind, first):
    """These configurations, and all that come of them when calls are given their moments."""
    seen = set(first)
    todo = list(first)
    while todo:
        configuration = todo.pop()
        for found in _one_moment_later(kind, configuration):
            if found not in seen:
                seen.add(found)
                todo.append(found)
    return tuple(sorted(seen))


def _one_moment_later(kind, configuration):
    state, statuses = configuration
    found = []
    for side, status in enumerate(statuses):
        if status[0] == 1:
            # A lot that is passed may be equal to a told one and have flags for integers.
            for result, after in kind.answers(int(state), status[1], int(status[2])):
                found.append((after, with_item(statuses, side, (2, result))))
    return found
