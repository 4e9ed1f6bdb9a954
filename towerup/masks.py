"""Lots held as bits, for long walks: a lot has an integer for each choice of results, whose bits are states."""

from towerup.basics import with_item
from towerup.histories import greatest_results
from towerup.machines import masks_behind

EMPTY = -1


class Lots:
    """The lots of a kind and a number of sides, numbered from 0, the first lot, as they come.

    A lot is a pair (calls, masks). The calls are what is under way for each side, (method, argument)
    or None. The masks stand at numbers with a digit for each side: 0 as long as its call has not been
    given its moment, or there is none, otherwise 1 more than the result that it will tell.
    """

    def __init__(self, kind, sides):
        self._kind = kind
        self._base = greatest_results(kind) + 1
        self._weights = [1]
        for side in range(1, sides):
            self._weights.append(self._weights[side - 1] * self._base)
        self._size = self._weights[-1] * self._base
        self._unplaced = [[other for other in range(sides) if self._digit(at, other) == 0] for at in range(self._size)]
        self._tables = {}
        self._behind = {}
        first = ((None,) * sides, (1 << kind.start,) + (0,) * (self._size - 1))
        self._lots = [first]
        self._numbers = {first: 0}

    def behind(self, number, event):
        """The number of the lot behind an event; EMPTY if it is empty. A told result that is None may be any."""
        key = (number, event)
        if key not in self._behind:
            calls, masks = self._lots[number]
            if event[0] == "call":
                lot = self._begun(with_item(calls, event[1], (event[2], event[3])), masks)
            else:
                lot = self._ended(with_item(calls, event[1], None), masks, event[1], event[2])
            self._behind[key] = self._number(lot)
        return self._behind[key]

    def told(self, number):
        """The lot of this number as the module lots tells it."""
        calls, masks = self._lots[number]
        found = []
        for at, mask in enumerate(masks):
            if mask != 0:
                statuses = tuple([self._status(call, at, side) for side, call in enumerate(calls)])
                found = found + [(state, statuses) for state in range(self._kind.states) if mask >> state & 1 == 1]
        return tuple(sorted(found))

    def _digit(self, at, side):
        return at // self._weights[side] % self._base

    def _status(self, call, at, side):
        if call is None:
            return (0,)
        digit = self._digit(at, side)
        return (1, call[0], call[1]) if digit == 0 else (2, digit - 1)

    def _number(self, lot):
        if not any(lot[1]):
            return EMPTY
        if lot not in self._numbers:
            self._numbers[lot] = len(self._lots)
            self._lots.append(lot)
        return self._numbers[lot]

    def _begun(self, calls, before):
        """A call that is given its moment leads to a greater number, so one round finds all that comes."""
        masks = list(before)
        for at in range(self._size):
            mask = masks[at]
            for side in self._unplaced[at] if mask != 0 else []:
                if calls[side] is not None:
                    for result, table in enumerate(self._table(calls[side])):
                        to = at + (result + 1) * self._weights[side]
                        masks[to] = masks[to] | table[mask]
        return (calls, tuple(masks))

    def _ended(self, calls, before, side, result):
        """The numbers with the digit of this result stay, with 0 in its place; for None those of all results."""
        masks = [0] * self._size
        for at, mask in enumerate(before):
            digit = self._digit(at, side)
            if digit > 0 and result in (None, digit - 1):
                to = at - digit * self._weights[side]
                masks[to] = masks[to] | mask
        return (calls, tuple(masks))

    def _table(self, call):
        """For each result of the call and each mask, the mask behind it."""
        if call not in self._tables:
            self._tables[call] = [masks_behind(self._kind, call + (result,))
                                  for result in range(self._kind.results(call[0]))]
        return self._tables[call]
