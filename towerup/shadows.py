"""Shadows: all states in which a house may be behind a history, as the bits of an integer."""

from towerup.graphs import groups_of
from towerup.masks import EMPTY


class Shadows:
    """Sets of states of a house, numbered as they come; the set behind the empty history has the number 0.

    With each state a set has all states to which steps without an event lead from it.
    """

    def __init__(self, states):
        rows = [states.ways(number) for number in range(states.many())]
        silent = [[behind for _, event, behind in row if event is None] for row in rows]
        reach = reached_sets(silent)
        self._heads = {}
        self._after = {}
        for number, row in enumerate(rows):
            for _, event, behind in row:
                if event is not None:
                    self._heads[event] = self._heads.get(event, 0) | 1 << number
                    self._after[(number, event)] = reach[behind]
        self._sets = [reach[0]]
        self._numbers = {reach[0]: 0}
        self._behind = {}

    def behind(self, number, event):
        """The number of the set behind an event; EMPTY if it is empty."""
        key = (number, event)
        if key not in self._behind:
            self._behind[key] = self._number(self._set_behind(self._sets[number], event))
        return self._behind[key]

    def _set_behind(self, states, event):
        rest = states & self._heads.get(event, 0)
        found = 0
        while rest != 0:
            number = rest.bit_length() - 1
            found = found | self._after[(number, event)]
            rest = rest ^ 1 << number
        return found

    def _number(self, states):
        if states == 0:
            return EMPTY
        if states not in self._numbers:
            self._numbers[states] = len(self._sets)
            self._sets.append(states)
        return self._numbers[states]


def reached_sets(edges):
    """For each number of a graph all numbers to which it leads, itself too, as bits."""
    masks = [0] * len(edges)
    for group in groups_of(edges):
        mask = 0
        for number in group:
            mask = mask | 1 << number
            for behind in edges[number]:
                # What is of the same group has no bits as yet; all else stands ahead.
                mask = mask | masks[behind]
        for number in group:
            masks[number] = mask
    return masks
