"""Orders: [8.1] to [8.3]."""

import random
import unittest
from itertools import permutations

from tests.helper import (all_histories, lossy, odd_values, random_history, random_kind, slow_ahead, slow_calls,
                          slow_orders, slow_ways, some_kinds)
from towerup.errors import BadHistory, BadSides, NoOrder, TooMany
from towerup.lots import fault
from towerup.orders import first_order, order_count, order_fault, sure_pairs
from towerup.shelf import cell, counter, flag, swap


def slow_sure_pairs(history, orders):
    told = [number for number, call in enumerate(slow_calls(history)) if call["end"] is not None]
    return [(i, j) for i in told for j in told
            if i != j and all(order.index(i) < order.index(j) for order in orders)]


def slow_order_fault(kind, history, order):
    """The fault of a tuple of unlike numbers of calls, by the words of [8.3]."""
    calls = slow_calls(history)
    lacks = [number for number, call in enumerate(calls) if call["end"] is not None and number not in order]
    if lacks:
        return ("lacks", lacks[0])
    ahead = slow_ahead(calls, order)
    if ahead:
        return ("ahead", *ahead[0])
    for place in range(len(order)):
        if not slow_ways(kind, calls, order[:place + 1]):
            return ("answer", place)
    return None


def few_calls(history, most):
    """The history up to the begin of one call too many."""
    begins = [at for at, event in enumerate(history) if event[0] == "call"]
    return history[:begins[most]] if len(begins) > most else history


class Orders(unittest.TestCase):
    def check_orders(self, kind, sides, history):
        """How many orders there are, held against a search over all choices of calls in all orders."""
        orders = slow_orders(kind, history)
        self.assertEqual(order_count(kind, sides, history), len(orders))
        first = first_order(kind, sides, history)
        self.assertEqual(first, orders[0] if orders else None)
        self.assertEqual(fault(kind, sides, history) is None, orders != [])
        if orders:
            self.assertIs(type(first), tuple)
            told = sure_pairs(kind, sides, history)
            self.assertEqual(told, slow_sure_pairs(history, orders))
            told.append("more")
            self.assertEqual(sure_pairs(kind, sides, history), told[:-1])
        else:
            with self.assertRaises(NoOrder):
                sure_pairs(kind, sides, history)
        return len(orders)

    def test_all_short_histories(self):
        for kind, sides, length in ((flag(), 2, 5), (lossy(), 2, 3), (cell(2), 3, 3), (swap(2), 2, 4)):
            found = [self.check_orders(kind, sides, history) for part in range(length + 1)
                     for history in all_histories(kind, sides, part)]
            self.assertTrue(0 in found or kind == cell(2))
            self.assertGreater(max(found), 2)

    def test_by_chance(self):
        rnd = random.Random(22)
        found = []
        for _ in range(250):
            kind = rnd.choice(some_kinds() + [random_kind(rnd, most_states=4, most_answers=3)])
            sides = rnd.randint(1, 3)
            history = few_calls(random_history(rnd, kind, sides, rnd.randint(0, 12), wrong=0.05), 6)
            found.append(self.check_orders(kind, sides, history))
        self.assertGreater(found.count(0), 20)
        self.assertGreater(found.count(1), 20)
        self.assertGreater(max(found), 10)

    def test_by_hand(self):
        history = [("call", 0, "set", 1), ("call", 1, "get", 0), ("told", 1, 0)]
        self.assertEqual(order_count(kind=cell(2), sides=2, history=history), 2)
        self.assertEqual(first_order(history=history, sides=2, kind=cell(2)), (1,))
        self.assertEqual(sure_pairs(history=history, kind=cell(2), sides=2), [])
        history = history + [("told", 0, 0), ("call", 1, "get", 0), ("told", 1, 1)]
        self.assertEqual(first_order(cell(2), 2, history), (1, 0, 2))
        self.assertEqual(sure_pairs(cell(2), 2, history), [(0, 2), (1, 0), (1, 2)])
        self.assertEqual((order_count(cell(2), 1, []), first_order(cell(2), 1, []), sure_pairs(cell(2), 1, [])),
                         (1, (), []))
        self.assertEqual(first_order(cell(2), 1, [("call", 0, "set", 1)]), ())
        self.assertEqual(order_count(cell(2), 1, [("call", 0, "set", 1)]), 2)

    def test_a_call_that_cannot_be_done(self):
        history = [("call", 0, "go", 1), ("call", 1, "ask", 0)]
        self.assertEqual(order_count(lossy(), 2, history), 2)
        self.assertEqual(first_order(lossy(), 2, history + [("told", 0, 0)]), None)
        self.assertEqual(order_count(lossy(), 2, history + [("told", 0, 0)]), 0)

    def test_no_order(self):
        for history in ([("call", 0, "get", 0), ("told", 0, 1)],
                        [("call", 0, "set", 1), ("told", 0, 0), ("call", 0, "get", 0), ("told", 0, 0)]):
            self.assertEqual(order_count(cell(2), 1, history), 0)
            self.assertIsNone(first_order(cell(2), 1, history))
            with self.assertRaises(NoOrder):
                sure_pairs(cell(2), 1, history)

    def test_rows_of_each_form(self):
        history = [["call", 0, "add", 0], ["call", 1, "add", 0], ["told", 1, 0], ["told", 0, 1]]
        for call, told in ((order_count, 1), (first_order, (1, 0)), (sure_pairs, [(1, 0)])):
            self.assertEqual(call(counter(2), 2, history), told)
            self.assertEqual(call(counter(2), 2, tuple(history)), told)
        self.assertEqual(history, [["call", 0, "add", 0], ["call", 1, "add", 0], ["told", 1, 0], ["told", 0, 1]])


class Many(unittest.TestCase):
    judges = (order_count, first_order, sure_pairs,
              lambda kind, sides, history: order_fault(kind, sides, history, (0, 1, 2)))

    def check_too_many(self, kind, sides, history):
        for judge in self.judges:
            with self.assertRaises(TooMany) as caught:
                judge(kind, sides, history)
            self.assertEqual(caught.exception.limit, 7)

    def test_seven_calls(self):
        history = [("call", 0, "get", 0), ("told", 0, 0)] * 7
        self.assertEqual(order_count(cell(2), 1, history), 1)
        self.assertEqual(first_order(cell(2), 1, history), tuple(range(7)))
        self.assertEqual(len(sure_pairs(cell(2), 1, history)), 21)
        self.assertIsNone(order_fault(cell(2), 1, history, tuple(range(7))))
        history = [("call", side, "swap", 0) for side in (0, 1, 2)]
        history += [("told", 0, 0), ("call", 0, "swap", 0), ("told", 1, 0), ("call", 1, "swap", 0),
                    ("told", 2, 0), ("call", 2, "swap", 0), ("told", 0, 0), ("call", 0, "swap", 0)]
        self.assertEqual(order_count(swap(2), 3, history), len(slow_orders(swap(2), history)))
        self.assertEqual(first_order(swap(2), 3, history), slow_orders(swap(2), history)[0])

    def test_eight_calls(self):
        history = [("call", 0, "get", 0), ("told", 0, 0)] * 7
        self.check_too_many(cell(2), 2, history + [("call", 1, "get", 0)])
        self.check_too_many(cell(2), 2, tuple(history + [("call", 1, "get", 0), ("told", 1, 0)]))
        self.check_too_many(cell(2), 1, [("call", 0, "get", 0), ("told", 0, 1)] * 8)
        self.check_too_many(cell(2), 3, [("call", 0, "get", 0), ("told", 0, 0)] * 30)

    def test_whatever_is_judged(self):
        history = [("call", 0, "get", 0), ("told", 0, 0)] * 8
        for value in odd_values():
            with self.assertRaises(TooMany):
                order_fault(cell(2), 1, history, value)

    def test_behind_the_errors_of_histories(self):
        history = [("call", 0, "get", 0), ("told", 0, 0)] * 8
        for judge in self.judges:
            with self.assertRaises(BadSides):
                judge(cell(2), 4, history)
            with self.assertRaises(BadHistory) as caught:
                judge(cell(2), 1, history + [("told", 0, 0)])
            self.assertEqual(caught.exception.index, 16)


class Faults(unittest.TestCase):
    def all_choices(self, many):
        return [order for length in range(many + 1) for order in permutations(range(many), length)]

    def test_all_tuples(self):
        rnd = random.Random(23)
        found = set()
        for _ in range(200):
            kind = rnd.choice(some_kinds() + [random_kind(rnd, most_states=4, most_answers=3)])
            sides = rnd.randint(1, 3)
            history = few_calls(random_history(rnd, kind, sides, rnd.randint(0, 8), wrong=0.1), 4)
            orders = slow_orders(kind, history)
            for order in self.all_choices(len(slow_calls(history))):
                told = order_fault(kind, sides, history, order)
                self.assertEqual(told, slow_order_fault(kind, history, order))
                self.assertEqual(told is None, order in orders)
                found.add(told)
        self.assertTrue({None, ("lacks", 0), ("lacks", 1), ("lacks", 2), ("ahead", 0, 1), ("ahead", 0, 2),
                         ("ahead", 1, 2), ("answer", 0), ("answer", 1), ("answer", 2)} <= found, found)

    def test_form(self):
        history = [("call", 0, "set", 1), ("told", 0, 0), ("call", 1, "get", 0)]
        right = [(0,), (1,), (0, 1), (1, 0), ()]
        for value in odd_values() + [[0, 1], [0], "01", (0, 0), (1, 1), (0, 1, 0), (0, 2), (2,), (-1,), (0, -1),
                                     (True,), (False, 1), (0, True), (False,), (0, None), ((0,), 1), (0, [1]),
                                     (0, {}), {0: 1}, (0, 10 ** 30), (0, "1"), (0, cell(2))]:
            if not (type(value) is tuple and value in right and all(type(item) is int for item in value)):
                self.assertEqual(order_fault(cell(2), 2, history, value), ("form",))
        for value in right:
            self.assertNotEqual(order_fault(cell(2), 2, history, value), ("form",))
        self.assertIsNone(order_fault(cell(2), 1, [], ()))
        for value in (0, [], (0,), None):
            self.assertEqual(order_fault(cell(2), 1, [], value), ("form",))

    def test_each_fault_in_its_order(self):
        history = [("call", 0, "set", 1), ("told", 0, 0), ("call", 0, "get", 0), ("call", 1, "set", 0),
                   ("told", 0, 1), ("call", 0, "get", 0), ("told", 0, 0), ("call", 2, "get", 0)]
        judged = {
            (0, 2, 1, 3, 1): ("form",), (5,): ("form",), (2, 1, 0): ("lacks", 3), (3, 1): ("lacks", 0),
            (2, 4): ("lacks", 0), (3, 1, 0): ("ahead", 0, 1), (0, 3, 1): ("ahead", 1, 3), (2, 0, 1, 3): ("ahead", 0, 2),
            (0, 4, 1, 3): ("ahead", 1, 4), (0, 1, 3): ("answer", 2), (0, 2, 1, 3): ("answer", 2),
            (0, 1, 4, 3): ("ahead", 3, 4), (0, 1, 2, 3): None, (0, 1, 2, 3, 4): None,
        }
        for order, told in judged.items():
            self.assertEqual(order_fault(cell(2), 3, history, order), told)
        self.assertIsNone(order_fault(order=(0, 1, 2, 3), history=history, kind=cell(2), sides=3))
        wrong = [("call", 0, "get", 0), ("told", 0, 1), ("call", 0, "get", 0), ("told", 0, 1)]
        self.assertEqual(order_fault(cell(2), 1, wrong, (1,)), ("lacks", 0))
        self.assertEqual(order_fault(cell(2), 1, wrong, (1, 0)), ("ahead", 0, 1))
        self.assertEqual(order_fault(cell(2), 1, wrong, (0, 1)), ("answer", 0))

    def test_errors(self):
        for value in odd_values():
            with self.assertRaises(BadHistory):
                order_fault(cell(2), 2, [None], value)
            with self.assertRaises(BadSides):
                order_fault(cell(2), 0, [None], value)


if __name__ == "__main__":
    unittest.main()
