"""Waiting: [17.1] to [17.3]."""

import random
import unittest

from tests.helper import (
    bad_limits, counting, drawn_houses, limits_told, locked, not_below, odd_values, slow_states, some_houses, stuck,
    weak_cell)
from towerup.contracts import Contract, free, only
from towerup.errors import NoSide, TooMany
from towerup.houses import House, plain
from towerup.kinds import Kind
from towerup.programs import Side
from towerup.runs import Running
from towerup.shelf import cell, choose, counter, flag, swap
from towerup.steps import initial, moves
from towerup.things import Atomic
from towerup.waits import alone, endless, lasso_fault, longest, stalled


def under_way(state, side):
    return state[0][side][1] != 0


def slow_counts(house, side, sides):
    """For each state that comes with a call of the side under way the greatest number of its further steps.

    Only these sides take steps. None if the numbers have no end: they grow beyond the number of states.
    """
    states = [state for state in slow_states(house) if under_way(state, side)]
    rows = {state: [(step, behind) for step, behind in moves(house, state) if step[0] in sides] for state in states}
    counts = dict.fromkeys(states, 0)
    while True:
        further = {state: max([0] + [(step[0] == side) + counts.get(behind, 0) for step, behind in rows[state]])
                   for state in states}
        if further == counts:
            return counts
        counts = further
        if max(counts.values()) > len(states) + 1:
            return None


def slow_longest(house, side):
    counts = slow_counts(house, side, range(len(house.sides)))
    if counts is None:
        return None
    return max([0] + [1 + counts[behind] for state in slow_states(house) if not under_way(state, side)
                      for step, behind in moves(house, state) if step[0] == side])


def slow_alone(house, side):
    counts = slow_counts(house, side, [side])
    return None if counts is None else max([0, *counts.values()])


def slow_circle(house, good):
    """Whether some endless run has, from some step on, only good steps: these lead on for ever from some state."""
    left = {state: {behind for step, behind in moves(house, state) if good(step)} for state in slow_states(house)}
    while True:
        ended = [state for state, behind in left.items() if not behind & left.keys()]
        if not ended:
            return bool(left)
        for state in ended:
            del left[state]


def slow_fault(house, side, lasso):
    """lasso_fault by a walk along the moves, by the words of [17.2]."""
    def row(value, length=None):
        return isinstance(value, (list, tuple)) and length in (None, len(value))

    if not row(lasso, 2) or not row(lasso[0]) or not row(lasso[1]):
        return ("form",)
    states = [initial(house)]
    taken = []
    for word, steps in zip(("lead", "turn"), lasso):
        for index, step in enumerate(steps):
            ways = [(each, behind) for each, behind in moves(house, states[-1])
                    if row(step, 4) and list(step) == list(each) and True not in [
                        isinstance(part, bool) for part in step]]
            if not ways:
                return (word, index)
            taken.append(ways[0][0])
            states.append(ways[0][1])
    turn = taken[len(lasso[0]):]
    if not turn:
        return ("empty",)
    if states[-1] != states[len(lasso[0])]:
        return ("back",)
    own = turn if side is None else [step for step in turn if step[0] == side]
    if [step for step in own if step[1] == "told"]:
        return ("told",)
    return None if own else ("side",)


def spinning():
    """Side 0 waits till the flag is clear; only side 1 clears it, and sets it for good if it is called twice."""
    wait = [("call", "l", "f", "test", 0), ("while", "l", 1, [("call", "l", "f", "test", 0)]), ("return", 0)]
    sides = [Side({"l": (2, 0)}, {"test": wait}), Side({"l": (2, 0)}, {"clear": [("call", "", "f", "clear", 0)]})]
    return House(flag(), [Atomic("f", flag())], only(flag(), [["test"], ["clear"]]), sides)


def silent_loop():
    """A side that asks a cell again and again and never ends; the other side is called and told."""
    forever = [("while", "r", 0, [("call", "", "c", "get", 0)])]
    sides = [Side({"r": (2, 0)}, {"get": forever}), Side({"r": (2, 0)}, {"get": [("return", 0)]})]
    return House(cell(2), [Atomic("c", cell(2))], only(cell(2), [["get"], ["get"]]), sides)


def never_called():
    contract = Contract(flag(), [{(1, "test"): (0, 0)}, {(0, "test"): (0, 0)}])
    return plain(flag(), contract)


def waiting_houses(rnd, many):
    return some_houses() + [spinning(), silent_loop(), never_called()] + drawn_houses(rnd, many)


class Numbers(unittest.TestCase):
    def test_held_against_a_slow_reckoning(self):
        rnd = random.Random(101)
        found = {}
        for house in waiting_houses(rnd, 120):
            for side in range(len(house.sides)):
                told = (longest(house, side), alone(house, side))
                self.assertEqual(told, (slow_longest(house, side), slow_alone(house, side)))
                key = tuple("none" if number is None else min(number, 4) for number in told)
                found[key] = found.get(key, 0) + 1
                # [17.3]
                if told[0] is not None:
                    self.assertIsNotNone(told[1])
                    self.assertLessEqual(told[1], told[0])
        for key in (("none", "none"), (0, 0), (1, 0), (3, 2), (4, 3), (4, 4)):
            self.assertGreater(found.get(key, 0), 2, key)

    def test_by_hand(self):
        self.assertEqual((longest(counting(), 0), alone(counting(), 0)), (4, 3))
        self.assertEqual((longest(side=1, house=counting()), alone(limit=100, side=1, house=counting())), (4, 3))
        # A get of a weak cell takes a start and a finish.
        self.assertEqual((longest(weak_cell("safe", 2, 2), 1), alone(weak_cell("safe", 2, 2), 1)), (6, 5))
        self.assertEqual((longest(never_called(), 0), alone(never_called(), 0)), (0, 0))
        self.assertEqual((longest(never_called(), 1), alone(never_called(), 1)), (3, 2))
        # A wrong step does not count, and the call is never told.
        self.assertEqual((longest(stuck(), 0), alone(stuck(), 0)), (1, 0))

    def test_no_greatest_number(self):
        # The lock is held by the other side, which does not go on while this one is alone.
        self.assertEqual([longest(locked(), 0), alone(locked(), 0)], [None, None])
        self.assertEqual([longest(locked(1), 0), alone(locked(1), 0)], [6, 5])
        self.assertEqual([longest(silent_loop(), 0), alone(silent_loop(), 0)], [None, None])
        self.assertEqual([longest(silent_loop(), 1), alone(silent_loop(), 1)], [2, 1])

    def test_alone_but_not_beside_others(self):
        # A side that asks till it is told the same twice ends alone, but the other side may keep it going.
        block = [("call", "x", "c", "get", 0), ("call", "y", "c", "get", 0),
                 ("while", "x", ("plus", "y", 1), [("call", "x", "c", "get", 0), ("call", "y", "c", "get", 0)]),
                 ("return", "x")]
        store = {"x": (2, 0), "y": (2, 0)}
        put = Side(store, {"set": [("call", "", "c", "set", "arg")]})
        house = House(cell(2), [Atomic("c", cell(2))], only(cell(2), [["get"], ["set"]]),
                      [Side(store, {"get": block}), put])
        self.assertIsNone(longest(house, 0))
        self.assertEqual(alone(house, 0), slow_alone(house, 0))
        self.assertIsNotNone(alone(house, 0))
        self.assertEqual(longest(house, 1), 3)

    def test_behind_broken_lots(self):
        # The second call, which takes longer, only comes behind a told result that breaks the lot.
        kind = Kind(2, 0, {"a": (1, 2, [[[(0, 1)]], [[(0, 0)]]]), "b": (1, 1, [[[(0, 0)]], [[(0, 1)]]])})
        rules = [{(0, "a"): (0, 1), (1, "b"): (1,)}]
        long = [("call", "", "c", "get", 0)] * 5
        side = Side({}, {"a": [("return", 1)], "b": long})
        house = House(kind, [Atomic("c", cell(2))], Contract(kind, rules), [side])
        self.assertEqual((longest(house, 0), alone(house, 0)), (7, 6))

    def test_no_side(self):
        for house in (counting(), locked(1), plain(flag(), only(flag(), [["test"], [], ["clear"]]))):
            for value in not_below(len(house.sides)):
                for function in (longest, alone, endless):
                    for limit in (1, 0, None):
                        with self.assertRaises(NoSide) as caught:
                            function(house, value, limit=limit)
                        self.assertIs(caught.exception.side, value)

    def test_limits(self):
        rnd = random.Random(102)
        for house in waiting_houses(rnd, 12):
            many = len(slow_states(house))
            for function in (longest, alone, endless):
                told = function(house, 0)
                limits_told(self, lambda limit: function(house, 0, limit=limit), many, told)
            limits_told(self, lambda limit: stalled(house, limit=limit), many, stalled(house))
        for function in (longest, alone, endless):
            bad_limits(self, lambda limit: function(counting(), 1, limit=limit))
            with self.assertRaises(TypeError):
                function(counting(), 1, 2000)
        bad_limits(self, lambda limit: stalled(counting(), limit=limit))
        with self.assertRaises(TypeError):
            stalled(counting(), 2000)

    def test_the_usual_limit(self):
        house = plain(counter(4), free(counter(4), 2))
        self.assertEqual(longest(house, 1, limit=1024), 3)
        self.assertEqual(longest(house, 1), 3)
        with self.assertRaises(TooMany):
            alone(house, 1, limit=1023)
        house = plain(choose(4), free(choose(4), 3))
        for call in (lambda: longest(house, 0), lambda: alone(house, 0), lambda: endless(house, 0),
                     lambda: stalled(house)):
            with self.assertRaises(TooMany) as caught:
                call()
            self.assertEqual(caught.exception.limit, 2000)


class Lassos(unittest.TestCase):
    def check(self, house, side):
        """Whether there is a lasso; it must be right."""
        told = stalled(house) if side is None else endless(house, side)
        if told is None:
            return False
        self.assertIs(type(told), tuple)
        self.assertEqual([type(steps) for steps in told], [list, list])
        self.assertTrue(all(type(step) is tuple for steps in told for step in steps))
        self.assertIsNone(slow_fault(house, side, told))
        self.assertIsNone(lasso_fault(house, side, told))
        again = stalled(house) if side is None else endless(house, side)
        self.assertIsNone(lasso_fault(house, side, again))
        for old, new in zip(told, again):
            self.assertIsNot(old, new)
            old.clear()
        self.assertIsNone(lasso_fault(house, side, again))
        self.assertIsNone(lasso_fault(house, side, stalled(house) if side is None else endless(house, side)))
        return True

    def test_by_chance(self):
        rnd = random.Random(103)
        found = {True: 0, False: 0}
        for house in waiting_houses(rnd, 120):
            ends = []
            for side in range(len(house.sides)):
                ends.append(self.check(house, side))
                self.assertEqual(ends[-1], longest(house, side) is None)
            is_stalled = self.check(house, None)
            self.assertEqual(is_stalled, slow_circle(house, lambda step: step[1] != "told"))
            found[is_stalled] += 1
            # [17.3]
            if is_stalled:
                self.assertIn(True, ends)
            if True not in ends:
                self.assertFalse(is_stalled)
        self.assertGreater(min(found.values()), 5)

    def test_by_hand(self):
        self.assertIsNone(endless(counting(), 0))
        self.assertIsNone(stalled(counting()))
        self.assertIsNone(stalled(house=plain(flag(), free(flag(), 2)), limit=500))
        lead, turn = endless(silent_loop(), 0)
        self.assertEqual((lead[-1], turn), ((0, "call", "get", 0), [(0, "do", "", 0)]))
        self.assertIsNone(endless(side=1, house=silent_loop()))
        # Side 0 waits while side 1 is called again and again, but it can also be that nobody else goes on.
        self.assertIsNotNone(endless(spinning(), 0))
        self.assertIsNone(endless(spinning(), 1))
        self.assertIsNotNone(stalled(spinning()))

    def test_endless_but_not_stalled(self):
        # Side 0 goes on only if side 1 writes another value each time, which takes calls of side 1.
        block = [("call", "x", "c", "swap", 0), ("while", "x", 1, [("call", "x", "c", "swap", 0)]), ("return", "x")]
        sides = [Side({"x": (2, 0)}, {"swap": block}),
                 Side({"x": (2, 0)}, {"swap": [("call", "x", "c", "swap", 1), ("return", "x")]})]
        house = House(swap(2), [Atomic("c", swap(2))], only(swap(2), [["swap"], ["swap"]]), sides)
        self.assertTrue(self.check(house, 0))
        self.assertFalse(self.check(house, None))
        self.assertFalse(self.check(house, 1))
        self.assertIn((1, "told"), [step[:2] for step in endless(house, 0)[1]])

    def test_long_lassos(self):
        # A counter of many values that is gone through without an end, far behind the first state.
        digits = {name: (4, 0) for name in "abcd"}
        digits["c"] = (3, 0)
        step = [("set", "a", ("plus", "a", 1)), ("if", "a", 0, [("set", "b", ("plus", "b", 1))], []),
                ("set", "c", ("plus", "c", 1)), ("call", "", "x", "get", 0)]
        house = House(cell(2), [Atomic("x", cell(2))], only(cell(2), [["get"]]), [
            Side(digits, {"get": [("while", "d", 0, step)]})])
        lead, turn = endless(house, 0)
        self.assertEqual(len(turn), 48)
        self.assertTrue(self.check(house, 0))
        self.assertTrue(self.check(house, None))
        self.assertIsNone(lasso_fault(house, 0, (lead, turn * 20)))


class Faults(unittest.TestCase):
    def check(self, house, side, lasso):
        told = lasso_fault(house, side, lasso)
        self.assertEqual(told, slow_fault(house, side, lasso))
        return told

    def test_in_their_order(self):
        house = silent_loop()
        lead, turn = [(0, "call", "get", 0)], [(0, "do", "", 0)]
        call, tell = [(1, "call", "get", 0)], [(1, "told", "", 0)]
        for side in (0, None):
            self.assertIsNone(self.check(house, side, (lead, turn)))
            self.assertIsNone(self.check(house, side, [tuple(map(list, lead)), turn * 3]))
            self.assertEqual(self.check(house, side, (lead, [])), ("empty",))
            self.assertEqual(self.check(house, side, (turn, [])), ("lead", 0))
            self.assertEqual(self.check(house, side, (lead + turn + lead, lead)), ("lead", 2))
            self.assertEqual(self.check(house, side, (lead, turn + lead)), ("turn", 1))
            self.assertEqual(self.check(house, side, (lead, turn + call)), ("back",))
            self.assertEqual(self.check(house, side, (lead, tell)), ("turn", 0))
        self.assertIsNone(self.check(house, 0, (lead, turn + call + tell)))
        self.assertEqual(self.check(house, None, (lead, turn + call + tell)), ("told",))
        self.assertEqual(self.check(house, 1, (lead, turn + call + tell)), ("told",))
        self.assertEqual(self.check(house, 1, (lead, turn)), ("side",))
        self.assertEqual(self.check(house, 0, ([], call + tell)), ("side",))
        self.assertEqual(self.check(house, 1, ([], call)), ("back",))
        self.assertEqual(self.check(house, 0, ([], [])), ("empty",))
        self.assertEqual(lasso_fault(lasso=([], []), side=None, house=house), ("empty",))

    def test_wrong_steps(self):
        house = stuck()
        wrong = (0, "wrong", "", -1)
        self.assertEqual(self.check(house, 0, ([(0, "call", "go", 0), wrong], [])), ("lead", 1))
        self.assertEqual(self.check(house, None, ([(0, "call", "go", 0)], [wrong])), ("turn", 0))

    def test_any_value(self):
        house = silent_loop()
        lead = [(0, "call", "get", 0)]
        for side in (0, 1, None):
            for value in odd_values():
                self.check(house, side, value)
                if not isinstance(value, (list, tuple)):
                    self.assertEqual(lasso_fault(house, side, value), ("form",))
                    self.assertEqual(lasso_fault(house, side, (value, [])), ("form",))
                    self.assertEqual(lasso_fault(house, side, [lead, value]), ("form",))
                self.assertEqual(self.check(house, side, (lead + [value], [])), ("lead", 1))
                self.assertEqual(self.check(house, side, (lead, [value])), ("turn", 0))
                self.assertEqual(self.check(house, side, (lead, [], value)), ("form",))
                right = type(value) is int and value == 0
                self.assertEqual(self.check(house, side, (lead, [(0, "do", "", value)])),
                                 ("turn", 0) if not right else ("side",) if side == 1 else None)
        self.assertEqual(self.check(house, 0, ([(False, "call", "get", 0)], [])), ("lead", 0))
        self.assertEqual(self.check(house, 0, ([(0, "call", "get", False)], [])), ("lead", 0))

    def test_no_side(self):
        house = silent_loop()
        for value in not_below(2):
            if value is not None:
                for lasso in (([], []), None, endless(house, 0)):
                    with self.assertRaises(NoSide) as caught:
                        lasso_fault(house, value, lasso)
                    self.assertIs(caught.exception.side, value)

    def test_by_chance(self):
        rnd = random.Random(104)
        words = {}
        for house in waiting_houses(rnd, 60):
            for side in [*range(len(house.sides)), None]:
                for _ in range(6):
                    running = Running(house)
                    list(running.wander([rnd.randrange(9) for _ in range(rnd.randint(0, 12))]))
                    steps = running.record().steps
                    cut = rnd.randint(0, len(steps))
                    told = endless(house, side) if side is not None else stalled(house)
                    if told is not None and rnd.random() < 0.5:
                        steps, cut = told[0] + told[1], len(told[0])
                        if rnd.random() < 0.5:
                            del steps[rnd.randrange(len(steps))]
                    word = self.check(house, side, (steps[:cut], steps[cut:]))
                    words[word and word[0]] = words.get(word and word[0], 0) + 1
        for word in (None, "lead", "turn", "empty", "back", "told"):
            self.assertGreater(words.get(word, 0), 10, word)

    def test_what_is_passed_stays(self):
        house = silent_loop()
        lasso = [[[0, "call", "get", 0]], [[0, "do", "", 0]]]
        self.assertIsNone(lasso_fault(house, 0, lasso))
        self.assertEqual(lasso, [[[0, "call", "get", 0]], [[0, "do", "", 0]]])


if __name__ == "__main__":
    unittest.main()
