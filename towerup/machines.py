"""Rows of calls that can come in a machine."""

from towerup.basics import is_below, is_row
from towerup.errors import BadCalls, Unlike
from towerup.graphs import way_to

MOST_CALLS = 60


def reached(kind, calls):
    """The states in which the machine can be behind these calls."""
    _check_calls(kind, calls)
    states = (kind.start,)
    for method, argument, result in calls:
        states = states_behind(kind, states, method, argument, result)
    return states


def states_behind(kind, states, method, argument, result):
    """The ascending tuple of the states behind a call in one of these states; the result None may be any."""
    return tuple(sorted({after for state in states
                         for told, after in kind.answers(state, method, argument)
                         if result is None or told == result}))


def alike(one, other):
    """None if the same call rows can come in both kinds, otherwise the first shortest one that parts them."""
    if _numbers(one) != _numbers(other):
        raise Unlike()
    calls = _all_calls(one)
    tables = [(masks_behind(one, call), masks_behind(other, call)) for call in calls]
    row = _parting_row(tables, (1 << one.start, 1 << other.start))
    return None if row is None else [calls[index] for index in row]


def masks_behind(kind, call):
    """For each set of states, as the bits of an index, the bits of the states behind the call."""
    method, argument, result = call
    rows = [states_behind(kind, (state,), method, argument, result) for state in range(kind.states)]
    return masks_of_sets([sum([1 << after for after in row]) for row in rows])


def masks_of_sets(masks):
    """For each set of indexes of masks, as the bits of an index, all bits of these masks together."""
    joined = [0]
    for bits in masks:
        joined = joined + [mask | bits for mask in joined]
    return joined


def _check_calls(kind, calls):
    if not is_row(calls, 0, MOST_CALLS):
        raise BadCalls(-1)
    for index, call in enumerate(calls):
        if not _is_call(kind, call):
            raise BadCalls(index)


def _is_call(kind, call):
    if not is_row(call, 3, 3) or call[0] not in kind:
        return False
    return is_below(call[1], kind.arguments(call[0])) and is_below(call[2], kind.results(call[0]))


def _numbers(kind):
    return [(name, kind.arguments(name), kind.results(name)) for name in kind.names()]


def _all_calls(kind):
    """All triples (method, argument, result) of the kind, ascending."""
    return [(name, argument, result)
            for name, arguments, results in _numbers(kind)
            for argument in range(arguments)
            for result in range(results)]


def _parting_row(tables, first):
    """The indexes of the tables that lead, first and shortest, to a pair of which one part alone is empty."""
    came = {first: None, (0, 0): None}
    found = [first]
    at = 0
    while at < len(found):
        left, right = found[at]
        for index, (lefts, rights) in enumerate(tables):
            behind = (lefts[left], rights[right])
            if behind not in came:
                came[behind] = (found[at], index)
                if 0 in behind:
                    return way_to(came, behind)
                found.append(behind)
        at += 1
    return None
