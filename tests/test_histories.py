"""Histories: [6.1] to [6.3], and the errors of all functions with the arguments kind, sides, history."""

import random
import unittest

from tests.helper import (all_histories, lossy, not_below, not_between, odd_values, random_history, random_kind,
                          slow_calls, some_kinds)
from towerup.errors import BadHistory, BadSides
from towerup.histories import calls_of, quiet, under_way
from towerup.lots import fault, first_lot, lot, lot_behind, states_at, tellable
from towerup.orders import first_order, order_count, order_fault, sure_pairs
from towerup.shelf import cell, choose, flag

JUDGES = (
    under_way, calls_of, quiet, lot, fault, states_at, order_count, first_order, sure_pairs,
    lambda kind, sides, history: tellable(kind, sides, history, None),
    lambda kind, sides, history: order_fault(kind, sides, history, None),
)


class HistoryCase(unittest.TestCase):
    def check_bad(self, index, kind, sides, history):
        for judge in JUDGES:
            with self.assertRaises(BadHistory) as caught:
                judge(kind, sides, history)
            self.assertEqual(caught.exception.index, index)


class Told(HistoryCase):
    def check_told(self, kind, sides, history):
        """Held against what a look over the whole history finds."""
        calls = slow_calls(history)
        self.assertEqual(calls_of(kind, sides, history),
                         [(call["side"], call["method"], call["argument"], call["result"]) for call in calls])
        under = [None] * sides
        for number, call in enumerate(calls):
            if call["end"] is None:
                under[call["side"]] = (call["method"], call["argument"], number)
        self.assertEqual(under_way(kind, sides, history), tuple(under))
        still = []
        for length in range(len(history) + 1):
            begun = [call for call in calls if call["begin"] < length]
            if all(call["end"] is not None and call["end"] < length for call in begun):
                still.append(length)
        self.assertEqual(quiet(kind, sides, history), still)

    def test_all_short_histories(self):
        for kind, sides, length in ((flag(), 1, 5), (flag(), 2, 4), (cell(2), 2, 3), (lossy(), 3, 3)):
            for part in range(length + 1):
                for history in all_histories(kind, sides, part):
                    self.check_told(kind, sides, history)

    def test_each_beginning(self):
        rnd = random.Random(13)
        for kind in some_kinds() + [random_kind(rnd) for _ in range(8)]:
            for sides in (1, 2, 3):
                history = random_history(rnd, kind, sides, 60)
                for length in range(61):
                    self.check_told(kind, sides, history[:length])

    def test_by_hand(self):
        history = [("call", 1, "set", 1), ("call", 0, "get", 0), ("told", 1, 0), ("told", 0, 1), ("call", 0, "set", 0)]
        self.assertEqual(under_way(cell(2), 3, history), (("set", 0, 2), None, None))
        self.assertEqual(under_way(cell(2), 2, history[:2]), (("get", 0, 1), ("set", 1, 0)))
        self.assertEqual(calls_of(cell(2), 2, history),
                         [(1, "set", 1, 0), (0, "get", 0, 1), (0, "set", 0, None)])
        self.assertEqual(quiet(cell(2), 2, history), [0, 4])
        self.assertEqual((under_way(cell(2), 1, []), calls_of(cell(2), 1, ()), quiet(cell(2), 1, [])),
                         ((None,), [], [0]))

    def test_rows_of_each_form(self):
        history = [("call", 0, "set", 1), ("call", 1, "get", 0), ("told", 0, 0)]
        for row in (tuple(history), [list(event) for event in history], tuple(list(event) for event in history)):
            before = repr(row)
            for call in (under_way, calls_of, quiet):
                self.assertEqual(call(cell(2), 2, row), call(history=history, sides=2, kind=cell(2)))
            self.assertEqual(repr(row), before)
            self.assertTrue(all(type(call) is tuple for call in calls_of(cell(2), 2, row)))
            self.assertIs(type(under_way(cell(2), 2, row)[1]), tuple)

    def test_told_lists_are_new(self):
        history = [("call", 0, "set", 1), ("told", 0, 0)]
        for call in (calls_of, quiet):
            told = call(cell(2), 1, history)
            told.append("more")
            self.assertEqual(call(cell(2), 1, history), told[:-1])
        self.assertEqual(len(history), 2)


class Wrong(HistoryCase):
    def test_sides(self):
        for value in not_between(1, 3):
            for judge in JUDGES:
                for history in ([], None, [None]):
                    with self.assertRaises(BadSides):
                        judge(cell(2), value, history)
            with self.assertRaises(BadSides):
                first_lot(cell(2), value)
            for event in (("call", 0, "get", 0), None):
                with self.assertRaises(BadSides):
                    lot_behind(cell(2), value, first_lot(cell(2), 1), event)

    def test_what_is_no_row(self):
        for value in odd_values():
            if not isinstance(value, (list, tuple)):
                self.check_bad(-1, cell(2), 2, value)

    def test_sixty_events(self):
        history = [("call", 0, "get", 0), ("told", 0, 0)] * 30
        self.assertEqual(len(calls_of(cell(2), 1, history)), 30)
        self.assertEqual(len(quiet(cell(2), 1, tuple(history))), 31)
        self.check_bad(-1, cell(2), 1, history + [("call", 0, "get", 0)])
        self.check_bad(-1, cell(2), 1, tuple(history + [("call", 0, "get", 0)]))
        self.check_bad(-1, cell(2), 1, [None] * 61)
        self.check_bad(0, cell(2), 1, [None] * 60)

    def test_another_thing_in_the_place_of_an_event(self):
        history = [("call", 0, "get", 0), ("call", 1, "set", 1), ("told", 0, 0), ("told", 1, 0)]
        wrong = odd_values() + [("call",), ("call", 2), ("told", 0), ("call", 2, "get"), ("told", 2, 0), ["told", 0],
                                ("call", 0, "get", 0, 0), ("told", 0, 0, 0), "call", {"call": 0},
                                ("Call", 0, "get", 0), ("told", "get", 0), ("call", "get", 0, 0), (0, "call", "get", 0)]
        for value in wrong:
            for place in range(5):
                self.check_bad(place, cell(2), 2, history[:place] + [value] + history[place:])
                self.check_bad(place, cell(2), 2, tuple(history[:place] + [value] + history[:place]))
                self.check_bad(place, cell(2), 2, history[:place] + [value, value])

    def test_an_event_twice_or_left_out(self):
        rnd = random.Random(14)
        for kind in (cell(2), lossy()):
            for sides in (1, 2, 3):
                history = random_history(rnd, kind, sides, 12)
                for place in range(12):
                    self.check_bad(place + 1, kind, sides, history[:place + 1] + history[place:])
                    side = history[place][1]
                    later = [at for at in range(place + 1, 12) if history[at][1] == side]
                    if later:
                        self.check_bad(later[0] - 1, kind, sides, history[:place] + history[place + 1:])

    def test_wrong_sides(self):
        for sides in (1, 2, 3):
            for value in not_below(sides):
                self.check_bad(0, cell(2), sides, [("call", value, "get", 0)])
                self.check_bad(1, cell(2), sides, [("call", 0, "get", 0), ["told", value, 0]])
        self.check_bad(1, cell(2), 2, [("call", 0, "get", 0), ("told", 1, 0)])
        self.check_bad(0, cell(2), 2, [("told", 1, 0)])
        self.check_bad(2, cell(2), 2, [("call", 0, "get", 0), ("call", 1, "get", 0), ("call", 1, "set", 0)])
        self.check_bad(2, cell(2), 1, [("call", 0, "get", 0), ("told", 0, 0), ("call", 1, "set", 0)])

    def test_wrong_methods_arguments_and_results(self):
        for kind in (cell(2), cell(3), choose(2), lossy()):
            for value in odd_values():
                if not (type(value) is str and value in kind):
                    self.check_bad(0, kind, 1, [("call", 0, value, 0)])
            for name in kind.names():
                for value in not_below(kind.arguments(name)):
                    self.check_bad(0, kind, 3, [["call", 2, name, value]])
                for value in not_below(kind.results(name)):
                    self.check_bad(1, kind, 3, [("call", 2, name, 0), ("told", 2, value)])
                for value in range(kind.results(name)):
                    self.assertEqual(calls_of(kind, 1, [("call", 0, name, 0), ["told", 0, value]]),
                                     [(0, name, 0, value)])
        self.check_bad(1, cell(2), 1, [("call", 0, "set", 0), ("told", 0, 1)])
        self.check_bad(2, cell(2), 2, [("call", 0, "set", 0), ("call", 1, "get", 0), ("told", 0, 1)])

    def test_the_first_wrong_event(self):
        history = [("call", 0, "get", 0), ("told", 0, 5), ("told", 0, 5), None]
        self.check_bad(1, cell(2), 1, history)
        self.check_bad(3, cell(2), 1, history[:1] + [("told", 0, 1), ("call", 0, "get", 0), None, None])


if __name__ == "__main__":
    unittest.main()
