"""Kinds: machines that are called by methods."""

from towerup.basics import is_below, is_between, is_name, is_row
from towerup.errors import BadKind, NoArgument, NoMethod, NoState

MOST_STATES = 8
MOST_METHODS = 4
MOST_ARGUMENTS = 4
MOST_RESULTS = 4
MOST_ANSWERS = 8


class Kind:
    """A machine with numbered states that tells results to the calls of its methods."""

    def __init__(self, states, start, methods):
        if not is_between(states, 1, MOST_STATES):
            raise BadKind("states")
        if not is_below(start, states):
            raise BadKind("start")
        if not _are_methods(states, methods):
            raise BadKind("methods")
        self.states = states
        self.start = start
        self._table = {name: _kept_method(row) for name, row in methods.items()}

    def __eq__(self, other):
        return (isinstance(other, Kind) and self.states == other.states and self.start == other.start
                and self._table == other._table)

    def __contains__(self, method):
        return isinstance(method, str) and method in self._table

    def names(self):
        """The ascending list of the names of the methods."""
        return sorted(self._table)

    def arguments(self, method):
        """How many arguments the method has."""
        return self._row(method)[0]

    def results(self, method):
        """How many results the method has."""
        return self._row(method)[1]

    def answers(self, state, method, argument):
        """The ascending tuple of the answers (result, next); () for a missing row."""
        if not is_below(state, self.states):
            raise NoState(state)
        arguments, _, rows = self._row(method)
        if not is_below(argument, arguments):
            raise NoArgument(argument)
        return rows[state][argument]

    def with_start(self, start):
        """The same kind with another start."""
        return Kind(self.states, start, self._table)

    def _row(self, method):
        if method not in self:
            raise NoMethod(method)
        return self._table[method]


def is_total(kind):
    """Whether no row of answers is missing."""
    return 0 not in _row_lengths(kind)


def is_single(kind):
    """Whether no row has more than one answer."""
    return max(_row_lengths(kind)) <= 1


def _row_lengths(kind):
    return [len(kind.answers(state, name, argument))
            for name in kind.names()
            for state in range(kind.states)
            for argument in range(kind.arguments(name))]


def _are_methods(states, methods):
    if not isinstance(methods, dict) or not 1 <= len(methods) <= MOST_METHODS:
        return False
    return all([is_name(name) and _is_method(states, row) for name, row in methods.items()])


def _is_method(states, row):
    if not is_row(row, 3, 3):
        return False
    arguments, results, rows = row
    if not is_between(arguments, 1, MOST_ARGUMENTS) or not is_between(results, 1, MOST_RESULTS):
        return False
    if not is_row(rows, states, states):
        return False
    return all([_is_state_row(states, arguments, results, state_row) for state_row in rows])


def _is_state_row(states, arguments, results, row):
    if not is_row(row, arguments, arguments):
        return False
    return all([_are_answers(states, results, answers) for answers in row])


def _are_answers(states, results, answers):
    if not is_row(answers, 0, MOST_ANSWERS):
        return False
    if not all([_is_answer(states, results, answer) for answer in answers]):
        return False
    return len({tuple(answer) for answer in answers}) == len(answers)


def _is_answer(states, results, answer):
    return is_row(answer, 2, 2) and is_below(answer[0], results) and is_below(answer[1], states)


def _kept_method(row):
    arguments, results, rows = row
    kept = [tuple([_kept_answers(answers) for answers in state_row]) for state_row in rows]
    return (arguments, results, tuple(kept))


def _kept_answers(answers):
    return tuple(sorted([tuple(answer) for answer in answers]))
