"""Histories: begins and ends of calls of several sides."""

from towerup.basics import is_below, is_between, is_row, with_item
from towerup.errors import BadHistory, BadSides

MOST_SIDES = 3
MOST_EVENTS = 60


def under_way(kind, sides, history):
    """For each side None, or (method, argument, number) of its call that is under way."""
    return under_way_along(kind, sides, history)[-1]


def calls_of(kind, sides, history):
    """All calls (side, method, argument, result); the result is None for one that is under way."""
    calls = []
    for event, row in zip(history, under_way_along(kind, sides, history)):
        if event[0] == "call":
            calls.append((event[1], event[2], event[3], None))
        else:
            number = row[event[1]][2]
            calls[number] = with_item(calls[number], 3, event[2])
    return calls


def quiet(kind, sides, history):
    """All numbers of first events behind which no call is under way."""
    rows = under_way_along(kind, sides, history)
    return [index for index, row in enumerate(rows) if row == (None,) * sides]


def under_way_along(kind, sides, history):
    """What is under way ahead of all events, and behind each one; BadSides, BadHistory."""
    check_sides(sides)
    if not is_row(history, 0, MOST_EVENTS):
        raise BadHistory(-1)
    rows = [(None,) * sides]
    calls = 0
    for index, event in enumerate(history):
        if not _can_stand(kind, rows[-1], event):
            raise BadHistory(index)
        if event[0] == "call":
            rows.append(with_item(rows[-1], event[1], (event[2], event[3], calls)))
            calls += 1
        else:
            rows.append(with_item(rows[-1], event[1], None))
    return rows


def check_sides(sides):
    """Raise BadSides for what is no number of sides."""
    if not is_between(sides, 1, MOST_SIDES):
        raise BadSides()


def is_call(kind, sides, event):
    """Whether this is ("call", side, method, argument) with a side, a method and an argument."""
    if not is_row(event, 4, 4) or event[0] != "call":
        return False
    return is_below(event[1], sides) and event[2] in kind and is_below(event[3], kind.arguments(event[2]))


def is_told(sides, event, results):
    """Whether this is ("told", side, result) with a side and a result below the number of results."""
    if not is_row(event, 3, 3) or event[0] != "told":
        return False
    return is_below(event[1], sides) and is_below(event[2], results)


def greatest_results(kind):
    """The greatest number of results of the kind's methods."""
    return max([kind.results(name) for name in kind.names()])


def _can_stand(kind, row, event):
    sides = len(row)
    if is_call(kind, sides, event):
        return row[event[1]] is None
    if not is_told(sides, event, greatest_results(kind)) or row[event[1]] is None:
        return False
    return event[2] < kind.results(row[event[1]][0])
