"""Guesses: ways through a diary on which the result of each call is guessed as it begins.

A place on such a way is a pair (calls, spots). The calls are what is under way for each side: None, or
(method, argument, result) with the result that it will tell, None if it is never told and may be any. The spots are
bits: one for each state behind one for each number, whose own bits are the sides whose calls have been given their
moments.

Results are guessed so early because this leads to far fewer places than all lots behind the results told so far.
"""

from towerup.basics import is_row, with_item
from towerup.histories import under_way_along
from towerup.machines import masks_behind, masks_of_sets


class Guesses:
    """All places of a diary, for each number of events."""

    def __init__(self, kind, sides, diary):
        rows = under_way_along(kind, sides, known_history(diary))
        self._kind = kind
        self._events = [tuple(event) for event in diary]
        self._numbers = [row[event[1]][2] if event[0] == "told" else None for event, row in zip(self._events, rows)]
        self._begins = [index for index, event in enumerate(self._events) if event[0] == "call"]
        self._options = {index: self._options_of(number) for number, index in enumerate(self._begins)}
        self._unplaced = [self._spots_without(sides, side) for side in range(sides)]
        self._tables = {}
        self._links = {}
        self._came = self._all_that_come((None,) * sides)
        self._kept = self._all_that_end()

    def many_ways(self):
        """How many ways lead to the end."""
        counts = {calls: {spots: 1} for calls, spots in self._kept[0].items()}
        for index in range(len(self._events)):
            further = {}
            for calls, row in counts.items():
                for _, behind in self._guessed(index, calls):
                    _count_on(row, self._left(index, behind, list(row)), further.setdefault(behind, {}))
            counts = further
        return sum([sum(row.values()) for row in counts.values()])

    def fillings(self, most):
        """The ascending list of the results that are not known, for each way to the end; for most + 1 ways at most."""
        unknown = [number for number, event in zip(self._numbers, self._events)
                   if number is not None and event[2] is None]
        found = []
        todo = [(0, calls, spots, ()) for calls, spots in self._kept[0].items()]
        while todo and len(found) <= most:
            index, calls, spots, guesses = todo.pop()
            if index == len(self._events):
                found.append(tuple([guesses[number] for number in unknown]))
            else:
                for guess, behind in self._guessed(index, calls):
                    left = self._left(index, behind, [spots])
                    if left != [0]:
                        todo.append((index + 1, behind, left[0], guesses + guess))
        return sorted(found)

    def results(self):
        """For each call the row of the results that it tells on some way to the end, (None,) if it is not told."""
        found = []
        for index in self._begins:
            rows = [(guess, self._left(index, behind, [spots])) for calls, spots in self._kept[index].items()
                    for guess, behind in self._guessed(index, calls)]
            found.append(tuple(sorted({guess[0] for guess, left in rows if left != [0]})))
        return found

    def _options_of(self, number):
        """The results that may be guessed for the call of this number."""
        if number not in self._numbers:
            return (None,)
        result = self._events[self._numbers.index(number)][2]
        method = self._events[self._begins[number]][2]
        return tuple(range(self._kind.results(method))) if result is None else (result,)

    def _spots_without(self, sides, side):
        """All spots at which no call of the side has been given its moment."""
        states = (1 << self._kind.states) - 1
        return sum([states << at * self._kind.states for at in range(1 << sides) if at >> side & 1 == 0])

    def _guessed(self, index, calls):
        """All (guess, calls under way) behind an event; a guess is a row of the result of a begun call, or empty."""
        event = self._events[index]
        if event[0] == "told":
            return [((), with_item(calls, event[1], None))]
        return [((result,), with_item(calls, event[1], (event[2], event[3], result)))
                for result in self._options[index]]

    def _moved(self, index, behind, ahead):
        """For each spots of a list those behind an event, when these calls are under way behind it."""
        event = self._events[index]
        if event[0] == "told":
            places, kept = self._kind.states << event[1], self._unplaced[event[1]]
            return [spots >> places & kept for spots in ahead]
        links, states = self._links_of(behind), (1 << self._kind.states) - 1
        return [_settled(links, states, spots) for spots in ahead]

    def _ahead(self, index, behind, spots):
        """The spots from which an event leads to one of these, when these calls are under way behind it."""
        event = self._events[index]
        if event[0] == "told":
            return (spots & self._unplaced[event[1]]) << (self._kind.states << event[1])
        states = (1 << self._kind.states) - 1
        for _, _, to, heads in self._links_of(behind)[::-1]:
            spots = spots | heads[spots >> to & states]
        return spots & self._unplaced[event[1]]

    def _left(self, index, behind, ahead):
        """The same, leaving out the spots from which the end cannot be reached."""
        kept = self._kept[index + 1].get(behind, 0)
        return [spots & kept for spots in self._moved(index, behind, ahead)]

    def _all_that_come(self, first):
        """For each number of events a dict from the calls under way to all spots that come."""
        rows = [{first: 1 << self._kind.start}]
        for index in range(len(self._events)):
            found = {}
            for calls, spots in rows[index].items():
                for _, behind in self._guessed(index, calls):
                    found[behind] = found.get(behind, 0) | self._moved(index, behind, [spots])[0]
            rows.append({behind: found[behind] for behind in found if found[behind] != 0})
        return rows

    def _all_that_end(self):
        """The same with only those spots from which the end can be reached."""
        rows = [self._came[-1]]
        for index in reversed(range(len(self._events))):
            found = {}
            for calls, spots in self._came[index].items():
                for _, behind in self._guessed(index, calls):
                    heads = self._ahead(index, behind, rows[-1].get(behind, 0))
                    found[calls] = found.get(calls, 0) | spots & heads
            rows.append({calls: found[calls] for calls in found if found[calls] != 0})
        return rows[::-1]

    def _links_of(self, calls):
        """The links of all moments of one of the calls, lower numbers first."""
        if calls not in self._links:
            begun = sum([1 << side for side, call in enumerate(calls) if call is not None])
            self._links[calls] = [self._link(call, at, at | 1 << side)
                                  for at in range(1 << len(calls)) if at & begun == at
                                  for side, call in enumerate(calls) if call is not None and at >> side & 1 == 0]
        return self._links[calls]

    def _link(self, call, at, to):
        """How the moment of a call leads from one number to another one.

        It is (first spot of the one, table from its states to spots of the other; first spot of the other, table back).
        """
        key = (call, at, to)
        if key not in self._tables:
            states = self._kind.states
            table = masks_behind(self._kind, call)
            heads = masks_of_sets([_heads_of(table, states, state) for state in range(states)])
            self._tables[key] = (at * states, [mask << to * states for mask in table],
                                 to * states, [mask << at * states for mask in heads])
        return self._tables[key]


def _settled(links, states, spots):
    """The spots, and all that comes of them when calls are given their moments."""
    for at, table, _, _ in links:
        spots = spots | table[spots >> at & states]
    return spots


def _count_on(row, behind, counts):
    """Add the numbers of ways to spots to the counts of those behind them."""
    for ways, spots in zip(row.values(), behind):
        if spots != 0:
            counts[spots] = counts.get(spots, 0) + ways


def known_history(diary):
    """The diary with the result 0, which each method has, for each that is not known; other values as they are."""
    if not isinstance(diary, (list, tuple)):
        return diary
    return [("told", event[1], 0) if _is_unknown(event) else event for event in diary]


def _is_unknown(event):
    return is_row(event, 3, 3) and event[0] == "told" and event[2] is None


def _heads_of(table, states, state):
    """The bits of all states from which a table leads to this one, perhaps among others."""
    return sum([1 << head for head in range(states) if table[1 << head] >> state & 1 == 1])
