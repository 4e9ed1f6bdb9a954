"""Contracts: which calls each side may begin."""

from towerup.basics import is_below, is_row, with_item
from towerup.errors import BadContract, NoMethod, NoMode, NoResult, NoSide, TooMany, Unlike
from towerup.histories import MOST_SIDES, check_sides, under_way_along

MOST_MODES = 16


class Contract:
    """For each side the methods that it may call in each of its modes, and the modes behind them."""

    def __init__(self, kind, rules):
        if not is_row(rules, 1, MOST_SIDES) or not all([isinstance(rows, dict) for rows in rules]):
            raise BadContract(-1)
        for side, rows in enumerate(rules):
            if not all([_is_rule(kind, key, modes) for key, modes in rows.items()]):
                raise BadContract(side)
        self.kind = kind
        self.sides = len(rules)
        self._rules = [{key: tuple(rows[key]) for key in rows} for rows in rules]

    def __eq__(self, other):
        return isinstance(other, Contract) and self.kind == other.kind and self._rules == other._rules

    def methods(self, side, mode):
        """The ascending list of the methods that the side may call in the mode."""
        self._check(side, mode)
        return [name for name in self.kind.names() if (mode, name) in self._rules[side]]

    def after(self, side, mode, method, result):
        """The mode of the side behind a call of the method that told the result."""
        self._check(side, mode)
        if method not in self.kind or (mode, method) not in self._rules[side]:
            raise NoMethod(method)
        if not is_below(result, self.kind.results(method)):
            raise NoResult(result)
        return self._rules[side][(mode, method)][result]

    def rules(self):
        """For each side the dict from (mode, method) to the modes behind the results."""
        return [{key: rows[key] for key in rows} for rows in self._rules]

    def _check(self, side, mode):
        if not is_below(side, self.sides):
            raise NoSide(side)
        if not is_below(mode, MOST_MODES):
            raise NoMode(mode)


def free(kind, sides):
    """The contract under which each side may call all methods."""
    check_sides(sides)
    return only(kind, [kind.names()] * sides)


def only(kind, rows):
    """The contract under which each side may always call the methods of its row."""
    if not is_row(rows, 1, MOST_SIDES) or not all([isinstance(row, (list, tuple)) for row in rows]):
        raise BadContract(-1)
    for side, row in enumerate(rows):
        if not all([method in kind for method in row]):
            raise BadContract(side)
    return Contract(kind, [{(0, method): (0,) * kind.results(method) for method in row} for row in rows])


def first_breach(contract, history):
    """The index of the first event that begins a call which the side may not begin, None if there is none."""
    rows = under_way_along(contract.kind, contract.sides, history)
    modes = (0,) * contract.sides
    for index, event in enumerate(history):
        side = event[1]
        if event[0] == "call":
            if event[2] not in contract.methods(side, modes[side]):
                return index
        else:
            method = rows[index][side][0]
            modes = with_item(modes, side, contract.after(side, modes[side], method, event[2]))
    return None


def looser(one, other):
    """None if other lets each side begin all that one lets it, otherwise the first calls that part them."""
    _check_alike(one, other)
    for side in range(one.sides):
        parting = _parting(one, other, side)
        if parting is not None:
            return parting
    return None


def both(one, other):
    """The contract under which a side may begin just what it may begin under both."""
    _check_alike(one, other)
    return Contract(one.kind, [_joined_rules(one, other, side) for side in range(one.sides)])


def _is_rule(kind, key, modes):
    if not isinstance(key, tuple) or len(key) != 2:
        return False
    if not is_below(key[0], MOST_MODES) or key[1] not in kind:
        return False
    results = kind.results(key[1])
    return is_row(modes, results, results) and all([is_below(mode, MOST_MODES) for mode in modes])


def _check_alike(one, other):
    if one.kind != other.kind or one.sides != other.sides:
        raise Unlike()


def _parting(one, other, side):
    """(side, calls, method): the first shortest calls behind which one alone lets the side call the method."""
    ways = {(0, 0): []}
    found = [(0, 0)]
    at = 0
    while at < len(found):
        pair = found[at]
        let = other.methods(side, pair[1])
        for method in one.methods(side, pair[0]):
            if method not in let:
                return (side, ways[pair], method)
        for method, behind in _shared(one, other, side, pair):
            for result, modes in enumerate(behind):
                if modes not in ways:
                    ways[modes] = ways[pair] + [(method, result)]
                    found.append(modes)
        at += 1
    return None


def _joined_rules(one, other, side):
    """The rules of a side whose modes are pairs of modes, numbered as they are found."""
    rules = {}
    found = [(0, 0)]
    at = 0
    while at < len(found):
        pair = found[at]
        for method, behind in _shared(one, other, side, pair):
            for modes in behind:
                if modes not in found:
                    found.append(modes)
            rules[(at, method)] = [found.index(modes) for modes in behind]
        if len(found) > MOST_MODES:
            raise TooMany(MOST_MODES)
        at += 1
    return rules


def _shared(one, other, side, pair):
    """For each method that both let the side call: the method, and the pairs of modes behind its results."""
    let = other.methods(side, pair[1])
    return [(method, _pairs_behind(one, other, side, pair, method))
            for method in one.methods(side, pair[0]) if method in let]


def _pairs_behind(one, other, side, pair, method):
    return [(one.after(side, pair[0], method, result), other.after(side, pair[1], method, result))
            for result in range(one.kind.results(method))]
