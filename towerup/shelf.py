"""Kinds made ready, and kinds that are joined of others."""

from towerup.basics import is_below, is_between, is_name, is_row
from towerup.errors import BadJoin, BadSetting
from towerup.kinds import Kind, MOST_ANSWERS, MOST_METHODS, MOST_STATES

LEAST_SIZE = 2
GREATEST_SIZE = 4
GREATEST_QUEUE = 3
MOST_DEALT = 3


def cell(size, start=0):
    """A cell whose value is got and set."""
    _check_size(size)
    if not is_below(start, size):
        raise BadSetting("start")
    put = _method(size, size, 1, lambda state, argument: [(0, argument)])
    return Kind(size, start, {"get": _get(size), "set": put})


def counter(size):
    """A counter: from the last state it goes on to state 0."""
    _check_size(size)
    add = _method(size, 1, size, lambda state, argument: [(state, (state + 1) % size)])
    return Kind(size, 0, {"add": add, "get": _get(size)})


def flag():
    """A flag that is set when it is tested."""
    test = _method(2, 1, 2, lambda state, argument: [(state, 1)])
    clear = _method(2, 1, 1, lambda state, argument: [(0, 0)])
    return Kind(2, 0, {"test": test, "clear": clear})


def swap(size):
    """A cell that tells its value when it takes another one."""
    _check_size(size)
    change = _method(size, size, size, lambda state, argument: [(state, argument)])
    return Kind(size, 0, {"swap": change})


def choose(size):
    """A choice: the argument of the first call is told to all."""
    _check_size(size)
    return Kind(size + 1, 0, {"choose": _method(size + 1, size, size, _choice_answers)})


def queue(size, room):
    """A queue of at most `room` values below `size`."""
    if not is_between(size, 1, GREATEST_QUEUE):
        raise BadSetting("size")
    if not is_between(room, 1, GREATEST_QUEUE):
        raise BadSetting("room")
    rows = _queue_rows(size, room)
    if len(rows) > MOST_STATES:
        raise BadSetting("room")
    put = _method(len(rows), size, 2, lambda state, argument: _put_answers(rows, room, state, argument))
    take = _method(len(rows), 1, size + 1, lambda state, argument: _take_answers(rows, state))
    return Kind(len(rows), 0, {"put": put, "take": take})


def pair(one, other):
    """The kind of two objects side by side."""
    names = one.names() + other.names()
    if len(set(names)) < len(names):
        raise BadJoin("names")
    if len(names) > MOST_METHODS:
        raise BadJoin("methods")
    states = one.states * other.states
    if states > MOST_STATES:
        raise BadJoin("states")
    methods = {name: _left_method(one, other.states, name) for name in one.names()}
    for name in other.names():
        methods[name] = _right_method(one.states, other, name)
    return Kind(states, one.start * other.states + other.start, methods)


def with_deal(kind, name, calls):
    """The kind with one method more, which does all these calls at once."""
    if not is_name(name) or name in kind:
        raise BadJoin("names")
    if len(kind.names()) >= MOST_METHODS:
        raise BadJoin("methods")
    if not _are_dealt(kind, calls):
        raise BadJoin("calls")
    ends = [_deal_answers(kind, calls, state) for state in range(kind.states)]
    if max([len(answers) for answers in ends]) > MOST_ANSWERS:
        raise BadJoin("answers")
    methods = {old: _same_method(kind, old) for old in kind.names()}
    methods[name] = _method(kind.states, 1, kind.results(calls[-1][0]), lambda state, argument: ends[state])
    return Kind(kind.states, kind.start, methods)


def _check_size(size):
    if not is_between(size, LEAST_SIZE, GREATEST_SIZE):
        raise BadSetting("size")


def _method(states, arguments, results, answers):
    """The method of a kind whose rows the function answers(state, argument) tells."""
    rows = [[answers(state, argument) for argument in range(arguments)] for state in range(states)]
    return (arguments, results, rows)


def _get(size):
    return _method(size, 1, size, lambda state, argument: [(state, state)])


def _choice_answers(state, argument):
    chosen = argument if state == 0 else state - 1
    return [(chosen, chosen + 1)]


def _queue_rows(size, room):
    """What may stand in a queue: shorter rows first, then ascending."""
    rows = [()]
    longest = [()]
    for _ in range(room):
        longest = [row + (value,) for row in longest for value in range(size)]
        rows = rows + longest
    return rows


def _put_answers(rows, room, state, argument):
    row = rows[state]
    if len(row) == room:
        return [(0, state)]
    return [(1, rows.index(row + (argument,)))]


def _take_answers(rows, state):
    row = rows[state]
    if len(row) == 0:
        return [(0, state)]
    return [(row[0] + 1, rows.index(row[1:]))]


def _left_method(one, width, name):
    """A method of the left kind, beside a right one of so many states."""
    def answers(state, argument):
        own = one.answers(state // width, name, argument)
        return [(result, after * width + state % width) for result, after in own]
    return _method(one.states * width, one.arguments(name), one.results(name), answers)


def _right_method(height, other, name):
    """A method of the right kind, beside a left one of so many states."""
    width = other.states

    def answers(state, argument):
        own = other.answers(state % width, name, argument)
        return [(result, state // width * width + after) for result, after in own]
    return _method(height * width, other.arguments(name), other.results(name), answers)


def _same_method(kind, name):
    return _method(kind.states, kind.arguments(name), kind.results(name),
                   lambda state, argument: kind.answers(state, name, argument))


def _are_dealt(kind, calls):
    return is_row(calls, 1, MOST_DEALT) and all([_is_dealt(kind, call) for call in calls])


def _is_dealt(kind, call):
    return is_row(call, 2, 2) and call[0] in kind and is_below(call[1], kind.arguments(call[0]))


def _deal_answers(kind, calls, state):
    """The answers of the calls, done one behind the other from a state."""
    ends = [(0, state)]
    for method, argument in calls:
        ends = sorted({answer for _, at in ends for answer in kind.answers(at, method, argument)})
    return ends
