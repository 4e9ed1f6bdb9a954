"""What houses show: the histories of their runs."""

from towerup.basics import as_tuples
from towerup.errors import Unlike
from towerup.graphs import way_to
from towerup.histories import under_way_along
from towerup.masks import EMPTY
from towerup.shadows import Shadows
from towerup.walks import all_states, check_limit, check_many


def run_of(house, history, *, limit=2000):
    """The first of the shortest runs that show the history, None if there is none."""
    under_way_along(house.kind, house.contract.sides, history)
    check_limit(limit)
    return _first_run(all_states(house, limit), as_tuples(history))


def shows(house, history, *, limit=2000):
    """Whether some run of the house shows the history."""
    return run_of(house, history, limit=limit) is not None


def within(one, other, *, limit=2000):
    """None if other shows all that one shows, otherwise the first of the shortest histories that one alone shows."""
    if one.kind != other.kind or one.contract.sides != other.contract.sides:
        raise Unlike()
    check_limit(limit)
    states = all_states(one, limit)
    return _first_alone(states, Shadows(all_states(other, limit)), limit)


def parted(one, other, *, limit=2000):
    """None if both show the same, otherwise which one shows more, and the first of the shortest such histories."""
    for index, (left, right) in enumerate([(one, other), (other, one)]):
        history = within(left, right, limit=limit)
        if history is not None:
            return (index, history)
    return None


def _first_run(states, history):
    """Places are pairs of a state and the number of events so far, found nearest first."""
    came = {(0, 0): None}
    found = [(0, 0)]
    at = 0
    while at < len(found):
        place = found[at]
        number, told = place
        if told == len(history):
            return way_to(came, place)
        for step, event, behind in states.ways(number):
            if event is None or event == history[told]:
                further = (behind, told if event is None else told + 1)
                if further not in came:
                    came[further] = (place, step)
                    found.append(further)
        at += 1
    return None


def _first_alone(states, shadows, limit):
    """The first shortest history of the states that leads the shadows to the empty set, when all pairs have come.

    Pairs come in groups, one for each history, shorter ones first, then ascending: (set, states). A group
    has just those pairs to which no history ahead of its own leads, so it has all of them, also those behind
    steps without an event, before the next group has any.
    """
    met = {(0, 0): True}
    came = {0: None}
    groups = [(0, _silently(states, met, 0, [0]))]
    answer = None
    at = 0
    while at < len(groups):
        check_many(len(met), limit)
        shadow, numbers = groups[at]
        table = {} if shadow == EMPTY else _by_event(states, numbers)
        for event in sorted(table):
            behind = shadows.behind(shadow, event)
            fresh = _not_met(met, behind, table[event])
            if fresh:
                came[len(groups)] = (at, event)
                if behind == EMPTY and answer is None:
                    answer = len(groups)
                groups.append((behind, fresh if behind == EMPTY else _silently(states, met, behind, fresh)))
        at += 1
    return None if answer is None else way_to(came, answer)


def _silently(states, met, shadow, numbers):
    """These states, and all that come of them by steps without an event, as pairs with the set that are not met."""
    found = list(numbers)
    at = 0
    while at < len(found):
        number = found[at]
        behind = [after for _, event, after in states.ways(number) if event is None]
        found.extend(_not_met(met, shadow, behind))
        at += 1
    return found


def _not_met(met, shadow, numbers):
    """Those of the states that are not met with this set yet, each once; then they are met."""
    fresh = []
    for number in numbers:
        if (number, shadow) not in met:
            met[(number, shadow)] = True
            fresh.append(number)
    return fresh


def _by_event(states, numbers):
    """For each event the states to which steps with it lead from these ones."""
    table = {}
    for number in numbers:
        for _, event, behind in states.ways(number):
            if event is not None:
                table.setdefault(event, []).append(behind)
    return table
