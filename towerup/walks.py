"""Walks: all states and standings of a house, numbered as they are found, nearest first."""

from towerup.basics import is_between
from towerup.errors import BadLimit, TooMany
from towerup.masks import EMPTY, Lots
from towerup.steps import event_of, initial, moves, wrongs

GREATEST_LIMIT = 4000
BREAKS = -1


class States:
    """The states of a house that come; the first one has the number 0."""

    def __init__(self, house):
        first = initial(house)
        self._house = house
        self._states = [first]
        self._numbers = {first: 0}
        self._ways = {}

    def many(self):
        """How many states have been found."""
        return len(self._states)

    def tuple_of(self, number):
        """The state of this number."""
        return self._states[number]

    def wrong(self, number):
        """The sides that can take a wrong step at this state."""
        return wrongs(self._house, self._states[number])

    def ways(self, number):
        """For each move of a state: (step, event or None, number of the state behind)."""
        if number not in self._ways:
            found = moves(self._house, self._states[number])
            self._ways[number] = [(step, event_of(step), self._number(state)) for step, state in found]
        return self._ways[number]

    def _number(self, state):
        if state not in self._numbers:
            self._numbers[state] = len(self._states)
            self._states.append(state)
        return self._numbers[state]


class Standings:
    """The standings of a house that come; the first one has the number 0."""

    def __init__(self, house, states):
        self._states = states
        self._lots = Lots(house.kind, house.contract.sides)
        self._standings = [(0, 0)]
        self._numbers = {(0, 0): 0}

    def many(self):
        """How many standings have been found."""
        return len(self._standings)

    def tuple_of(self, number):
        """The standing of this number, (state, lot)."""
        state, lot = self._standings[number]
        return (self._states.tuple_of(state), self._lots.told(lot))

    def wrong(self, number):
        """The sides that can take a wrong step at this standing."""
        return self._states.wrong(self._standings[number][0])

    def ways(self, number):
        """For each move of a standing: (step, number of the standing behind, or BREAKS)."""
        state, lot = self._standings[number]
        found = []
        for step, event, behind in self._states.ways(state):
            after = lot if event is None else self._lots.behind(lot, event)
            found.append((step, BREAKS if after == EMPTY else self._number((behind, after))))
        return found

    def _number(self, standing):
        if standing not in self._numbers:
            self._numbers[standing] = len(self._standings)
            self._standings.append(standing)
        return self._numbers[standing]


def check_limit(limit):
    """Raise BadLimit for what is no limit."""
    if not is_between(limit, 1, GREATEST_LIMIT):
        raise BadLimit()


def check_many(found, limit):
    """Raise TooMany if more have been found than the limit."""
    if found > limit:
        raise TooMany(limit)


def all_states(house, limit):
    """The States of a house, when all of them have been found."""
    states = States(house)
    number = 0
    while number < states.many():
        states.ways(number)
        check_many(states.many(), limit)
        number += 1
    return states
