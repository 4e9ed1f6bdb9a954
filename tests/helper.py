"""What several tests need: odd values, kinds and histories, and slow reckonings by the words of DOC.md."""

from itertools import permutations, product

from towerup.errors import BadKind, TowerError
from towerup.kinds import Kind
from towerup.shelf import cell, choose, counter, flag, queue, swap


def nested(depth):
    value = 0
    for level in range(depth):
        value = ([value], (value,), {"x": value}, {"x": [value], (level,): value})[level % 4]
    return value


def odd_values():
    """Values of each kind that [2.2] names; many are right somewhere, so tests leave those out."""
    return [
        None, True, False,
        -1, 0, 1, 2, 3, 4, 5, 7, 8, 9, 16, 60, 61, 4001, -(10 ** 30), 10 ** 30,
        "", "get", "set", "Get", "get ", " ", "\n", "a b", "getgetge", "getgetget", "call", "told", "0", "~", "a1", "a_",
        [], [0], [1, 0], [0, 0], [None], ["get"], [[]], [[0]], ["get", 0, 0], [{}], [True],
        (), (0,), (1, 0), (0, 0), (None,), ("get",), ((),), ((0,),), ("get", 0, 0), ({},), (False,),
        {}, {"get": 0}, {0: "get"}, {None: None}, {"get": {}}, {(0, "get"): [0]}, {True: False},
        nested(3), nested(20), [nested(20)], (nested(19),), {"get": nested(19)},
        cell(2), flag(), BadKind("states"), TowerError("told"), [cell(2)], (cell(2), 0), {"get": cell(2)},
    ]


def is_int(value):
    return isinstance(value, int) and value is not True and value is not False


def not_below(bound):
    """The odd values that are no integers from 0 to bound - 1."""
    return [value for value in odd_values() if not (is_int(value) and 0 <= value < bound)]


def not_between(least, greatest):
    return [value for value in odd_values() if not (is_int(value) and least <= value <= greatest)]


def rows_of(kind):
    """The kind as a plain dict: name -> (arguments, results, rows)."""
    return {
        name: (kind.arguments(name), kind.results(name), [
            [kind.answers(state, name, argument) for argument in range(kind.arguments(name))]
            for state in range(kind.states)])
        for name in kind.names()}


def random_row(rnd, states, results, most):
    every = list(product(range(results), range(states)))
    rnd.shuffle(every)
    return every[:rnd.randint(0, min(most, len(every)))]


def random_kind(rnd, most_states=8, most_methods=4, most_numbers=4, most_answers=8, least_answers=0):
    states = rnd.randint(1, most_states)
    names = rnd.sample(["a", "b", "get", "set", "put", "swap", "zz", "aaaaaaaa"], rnd.randint(1, most_methods))
    methods = {}
    for name in names:
        arguments, results = rnd.randint(1, most_numbers), rnd.randint(1, most_numbers)
        rows = [[random_row(rnd, states, results, most_answers) for _ in range(arguments)] for _ in range(states)]
        for row in [each for part in rows for each in part]:
            while len(row) < least_answers:
                row.append((rnd.randrange(results), rnd.randrange(states)))
        methods[name] = (arguments, results, rows)
    return Kind(states, rnd.randrange(states), methods)


def changed_kind(rnd, kind):
    """The kind with one answer more or less in some row."""
    methods = rows_of(kind)
    name = rnd.choice(kind.names())
    arguments, results, rows = methods[name]
    state, argument = rnd.randrange(kind.states), rnd.randrange(arguments)
    answer = (rnd.randrange(results), rnd.randrange(kind.states))
    row = list(rows[state][argument])
    if answer in row:
        row.remove(answer)
    elif len(row) < 8:
        row.append(answer)
    rows[state][argument] = row
    return Kind(kind.states, kind.start, methods)


def renumbered(kind, places):
    """The kind with the state s called places[s]."""
    methods = {}
    for name, (arguments, results, rows) in rows_of(kind).items():
        other = [None] * kind.states
        for state, row in enumerate(rows):
            other[places[state]] = [[(result, places[after]) for result, after in answers] for answers in row]
        methods[name] = (arguments, results, other)
    return Kind(kind.states, places[kind.start], methods)


def lossy():
    """A small kind with missing rows and several answers."""
    return Kind(3, 0, {
        "go": (2, 2, [[[(0, 1), (1, 2)], []], [[], [(0, 0), (0, 2)]], [[(1, 2)], [(0, 1), (1, 1)]]]),
        "ask": (1, 3, [[[(0, 0)]], [[(1, 1), (2, 1)]], [[]]]),
    })


def some_kinds():
    return [cell(2), cell(3, 1), counter(3), flag(), swap(2), choose(2), queue(2, 1), lossy()]


def random_history(rnd, kind, sides, length, wrong=0.3):
    """A history whose results mostly come of a machine, so that many are explained."""
    events, under, state = [], [None] * sides, kind.start
    while len(events) < length:
        side = rnd.randrange(sides)
        if under[side] is None:
            method = rnd.choice(kind.names())
            under[side] = (method, rnd.randrange(kind.arguments(method)), None)
            events.append(("call", side, *under[side][:2]))
        elif under[side][2] is None and rnd.random() < 0.5:
            method, argument, _ = under[side]
            answers = kind.answers(state, method, argument)
            if answers and rnd.random() >= wrong:
                result, state = rnd.choice(answers)
            else:
                result = rnd.randrange(kind.results(method))
            under[side] = (method, argument, result)
        elif under[side][2] is not None and rnd.random() < 0.6:
            events.append(("told", side, under[side][2]))
            under[side] = None
    return events


def all_histories(kind, sides, length):
    """All histories of just this many events."""
    found = [([], (None,) * sides)]
    for _ in range(length):
        longer = []
        for events, under in found:
            for side in range(sides):
                if under[side] is None:
                    for method in kind.names():
                        for argument in range(kind.arguments(method)):
                            longer.append((events + [("call", side, method, argument)],
                                           under[:side] + (method,) + under[side + 1:]))
                else:
                    for result in range(kind.results(under[side])):
                        longer.append((events + [("told", side, result)],
                                       under[:side] + (None,) + under[side + 1:]))
        found = longer
    return [events for events, _ in found]


def slow_calls(history):
    """Each call as a dict, found by looking ahead for the end of each begin."""
    calls = []
    for begin, event in enumerate(history):
        if event[0] != "call":
            continue
        ends = [at for at in range(begin + 1, len(history))
                if history[at][0] == "told" and history[at][1] == event[1]]
        calls.append({"side": event[1], "method": event[2], "argument": event[3], "begin": begin,
                      "end": ends[0] if ends else None,
                      "result": history[ends[0]][2] if ends else None})
    return calls


def slow_ways(kind, calls, order):
    """All rows of (result, state behind it) that the calls in this order can give."""
    ways = [[(None, kind.start)]]
    for number in order:
        call = calls[number]
        ways = [way + [(result, after)] for way in ways
                for result, after in kind.answers(way[-1][1], call["method"], call["argument"])
                if call["result"] is None or call["result"] == result]
    return [way[1:] for way in ways]


def slow_placed(calls):
    """All choices of calls: the told ones, and some, none or all of the others."""
    told = [number for number, call in enumerate(calls) if call["end"] is not None]
    rest = [number for number, call in enumerate(calls) if call["end"] is None]
    for flags in product((False, True), repeat=len(rest)):
        yield sorted(told + [number for number, taken in zip(rest, flags) if taken])


def slow_orders(kind, history):
    """All orders by the words of [8.1], ascending."""
    calls = slow_calls(history)
    orders = []
    for chosen in slow_placed(calls):
        for order in permutations(chosen):
            if slow_ahead(calls, order) == [] and slow_ways(kind, calls, order):
                orders.append(order)
    return sorted(orders)


def slow_ahead(calls, order):
    """All pairs (i, j) of calls of the order such that i ends ahead of the begin of j and j stands ahead of i."""
    return sorted([(i, j) for place, j in enumerate(order) for i in order[place + 1:]
                   if calls[i]["end"] is not None and calls[i]["end"] < calls[j]["begin"]])


def slow_moments(kind, sides, history):
    """All (state, statuses) behind the history, by moments in the gaps between events ([7.1])."""
    calls = slow_calls(history)
    found = set()
    for chosen in slow_placed(calls):
        gaps = []
        for number in chosen:
            end = calls[number]["end"]
            last = len(history) if end is None else end
            gaps.append(range(calls[number]["begin"] + 1, last + 1))
        orders = set()
        for places in product(*gaps):
            for order in permutations(range(len(chosen))):
                if all(places[a] <= places[b] for a, b in zip(order, order[1:])):
                    orders.add(tuple(chosen[at] for at in order))
        for order in orders:
            for way in slow_ways(kind, calls, order):
                found.add(slow_configuration(kind, sides, calls, order, way))
    return tuple(sorted(found))


def slow_configuration(kind, sides, calls, order, way):
    state = way[-1][1] if way else kind.start
    statuses = [(0,)] * sides
    for number, call in enumerate(calls):
        if call["end"] is None:
            statuses[call["side"]] = (1, call["method"], call["argument"])
            if number in order:
                statuses[call["side"]] = (2, way[order.index(number)][0])
    return (state, tuple(statuses))


def slow_lot(kind, sides, history):
    """The lot by the words of [7.2], with no thought for speed."""
    configurations = {(kind.start, ((0,),) * sides)}
    for event in history:
        side = event[1]
        if event[0] == "told":
            configurations = {(state, statuses[:side] + ((0,),) + statuses[side + 1:])
                              for state, statuses in configurations if statuses[side] == (2, event[2])}
            continue
        configurations = {(state, statuses[:side] + ((1, event[2], event[3]),) + statuses[side + 1:])
                          for state, statuses in configurations}
        size = -1
        while size != len(configurations):
            size = len(configurations)
            for state, statuses in sorted(configurations):
                for other, status in enumerate(statuses):
                    if status[0] == 1:
                        for result, after in kind.answers(state, status[1], status[2]):
                            configurations.add((after, statuses[:other] + ((2, result),) + statuses[other + 1:]))
    return tuple(sorted(configurations))
