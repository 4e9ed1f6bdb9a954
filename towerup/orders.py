"""Orders in which a machine can be called so that it answers what was told."""

from towerup.basics import is_below
from towerup.errors import NoOrder, TooMany
from towerup.histories import calls_of, under_way_along
from towerup.machines import states_behind

MOST_ORDERED = 7


def order_count(kind, sides, history):
    """How many orders the history has."""
    return len(_orders(kind, sides, history))


def first_order(kind, sides, history):
    """The first order of the history, None if there is none."""
    orders = _orders(kind, sides, history)
    return orders[0] if orders else None


def sure_pairs(kind, sides, history):
    """All pairs of told calls the first of which stands ahead of the second in each order."""
    orders = _orders(kind, sides, history)
    if not orders:
        raise NoOrder()
    told = _told(_few_calls(kind, sides, history))
    return [(i, j) for i in told for j in told if _always_ahead(orders, i, j)]


def order_fault(kind, sides, history, order):
    """None if the value is an order of the history, otherwise why it is none."""
    calls = _few_calls(kind, sides, history)
    if not _is_choice(len(calls), order):
        return ("form",)
    for number in _told(calls):
        if number not in order:
            return ("lacks", number)
    for first, second in _must_pairs(kind, sides, history):
        if second in order and order.index(second) < order.index(first):
            return ("ahead", first, second)
    return _answer_fault(kind, calls, order)


def _few_calls(kind, sides, history):
    calls = calls_of(kind, sides, history)
    if len(calls) > MOST_ORDERED:
        raise TooMany(MOST_ORDERED)
    return calls


def _told(calls):
    return [number for number, call in enumerate(calls) if call[3] is not None]


def _must_pairs(kind, sides, history):
    """All pairs (i, j), ascending, such that call i ends ahead of the begin of call j."""
    pairs = []
    ended = []
    begun = 0
    for event, row in zip(history, under_way_along(kind, sides, history)):
        if event[0] == "call":
            pairs = pairs + [(number, begun) for number in ended]
            begun += 1
        else:
            ended.append(row[event[1]][2])
    return sorted(pairs)


def _orders(kind, sides, history):
    """All orders of the history, ascending."""
    calls = _few_calls(kind, sides, history)
    told = _told(calls)
    pairs = _must_pairs(kind, sides, history)
    orders = []
    todo = [((), (kind.start,))]
    while todo:
        order, states = todo.pop()
        if all([number in order for number in told]):
            orders.append(order)
        for number, call in enumerate(calls):
            if _may_follow(pairs, order, number):
                behind = states_behind(kind, states, call[1], call[2], call[3])
                if behind:
                    todo.append((order + (number,), behind))
    return sorted(orders)


def _may_follow(pairs, order, number):
    if number in order:
        return False
    return all([first in order for first, second in pairs if second == number])


def _always_ahead(orders, first, second):
    return all([order.index(first) < order.index(second) for order in orders])


def _is_choice(count, order):
    if not isinstance(order, tuple) or not all([is_below(number, count) for number in order]):
        return False
    return len(set(order)) == len(order)


def _answer_fault(kind, calls, order):
    states = (kind.start,)
    for place, number in enumerate(order):
        _, method, argument, result = calls[number]
        states = states_behind(kind, states, method, argument, result)
        if not states:
            return ("answer", place)
    return None
