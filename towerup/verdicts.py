"""Verdicts: whether a house keeps its kind."""

from towerup.errors import BadStep, Broken
from towerup.graphs import way_to
from towerup.masks import EMPTY, Lots
from towerup.runs import run
from towerup.steps import event_of, wrong_step
from towerup.walks import BREAKS, States, Standings, all_states, check_limit, check_many

STATE_DEPTH = 5


def breaking(house, *, limit=2000):
    """The first of the shortest runs that break, None if the house keeps its kind."""
    check_limit(limit)
    _, steps = _walked(house, States(house), limit)
    return steps


def broken_at(house, steps):
    """None if the run does not break, otherwise ("wrong", side) or ("told", index)."""
    record = run(house, steps)
    lots = Lots(house.kind, house.contract.sides)
    lot = 0
    events = 0
    for index, step in enumerate(record.steps):
        if step[1] == "wrong":
            return ("wrong", step[0])
        event = event_of(step)
        if event is not None:
            lot = lots.behind(lot, event)
            events += 1
        if lot == EMPTY:
            if index + 1 < len(record.steps):
                raise BadStep(index + 1)
            return ("told", events - 1)
    return None


def standings(house, *, limit=2000):
    """The ascending list of all standings of a house that keeps its kind."""
    check_limit(limit)
    graph, steps = _walked(house, States(house), limit)
    if steps is not None:
        raise Broken()
    return sorted([graph.tuple_of(number) for number in range(graph.many())])


def closed_fault(house, rows):
    """None if the rows show that the house keeps its kind, otherwise why they do not."""
    if not isinstance(rows, (list, tuple)):
        return ("row",)
    table = _lots_by_state(rows)
    graph = Standings(house, States(house))
    if not _stands_in(table, graph.tuple_of(0)):
        return ("begin",)
    walked = 0
    while walked < graph.many():
        fault = _way_fault(table, graph, walked)
        if fault is not None:
            return fault
        walked += 1
    return None


def sizes(house, *, limit=2000):
    """How many states come in runs, and how many standings."""
    check_limit(limit)
    states = all_states(house, limit)
    graph, _ = _walked(house, states, limit)
    return (states.many(), graph.many())


def _walked(house, states, limit):
    """The Standings of a house, all of them found, and the first of the shortest runs that break, or None."""
    graph = Standings(house, states)
    came = {0: None}
    broken = None
    number = 0
    while number < graph.many():
        ways = graph.ways(number)
        breaks = [step for step, behind in ways if behind == BREAKS]
        if broken is None and (breaks or graph.wrong(number)):
            last = min(breaks + [wrong_step(side) for side in graph.wrong(number)])
            broken = way_to(came, number) + [last]
        for step, behind in ways:
            if behind != BREAKS and behind not in came:
                came[behind] = (number, step)
        check_many(graph.many(), limit)
        number += 1
    return graph, broken


def _way_fault(table, graph, number):
    """What is wrong with the steps from a standing that was walked to."""
    known = graph.many()
    for step, behind in graph.ways(number):
        if behind == BREAKS:
            return ("breaks", graph.tuple_of(number), step)
        # Each standing with a smaller number was looked for when it was found.
        if behind >= known:
            if not _stands_in(table, graph.tuple_of(behind)):
                return ("lacks", graph.tuple_of(behind))
    for side in graph.wrong(number):
        return ("breaks", graph.tuple_of(number), wrong_step(side))
    return None


def _lots_by_state(rows):
    """For each state that an element begins with, what stands behind it."""
    table = {}
    for row in rows:
        if isinstance(row, tuple) and len(row) == 2 and _is_plain(row[0], STATE_DEPTH):
            table.setdefault(row[0], []).append(row[1])
    return table


def _stands_in(table, standing):
    return standing[1] in table.get(standing[0], [])


def _is_plain(value, depth):
    """Whether the value has only integers, flags and strings in tuples, at most so deep, as states have.

    Other values cannot be keys.
    """
    if isinstance(value, tuple):
        return depth > 0 and all([_is_plain(item, depth - 1) for item in value])
    return isinstance(value, (int, str))
