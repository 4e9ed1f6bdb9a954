"""Rows of calls: [5.1], [5.2]."""

import random
import unittest
from itertools import permutations, product

from tests.helper import (changed_kind, lossy, not_below, odd_values, random_kind, renumbered, rows_of, some_kinds)
from towerup.errors import BadCalls, Unlike
from towerup.kinds import Kind
from towerup.machines import alike, reached
from towerup.shelf import cell, counter, flag, queue, swap


def all_calls(kind):
    return [(name, argument, result) for name in kind.names()
            for argument in range(kind.arguments(name)) for result in range(kind.results(name))]


def slow_reached(kind, calls):
    """The states behind the calls, by going each way for itself."""
    ways = [kind.start]
    for method, argument, result in calls:
        ways = [after for state in ways for told, after in kind.answers(state, method, argument) if told == result]
    return tuple(sorted(set(ways)))


def slow_alike(one, other, longest):
    """The first shortest call row that can come in one kind alone, of those that are not longer."""
    for length in range(longest + 1):
        for row in product(all_calls(one), repeat=length):
            if bool(slow_reached(one, row)) != bool(slow_reached(other, row)):
                return list(row)
    return None


def walked_calls(rnd, kind, length):
    """Calls that can come, as many as there are up to length, and the states behind each."""
    state, calls = kind.start, []
    while len(calls) < length:
        choices = [(name, argument, answer) for name in kind.names() for argument in range(kind.arguments(name))
                   for answer in kind.answers(state, name, argument)]
        if not choices:
            break
        name, argument, (result, state) = rnd.choice(choices)
        calls.append((name, argument, result))
    return calls


class Reached(unittest.TestCase):
    def check_bad(self, index, kind, calls):
        with self.assertRaises(BadCalls) as caught:
            reached(kind, calls)
        self.assertEqual(caught.exception.index, index)

    def test_all_short_rows(self):
        for kind in (lossy(), flag(), cell(2, 1), queue(1, 1)):
            for length in range(4):
                for row in product(all_calls(kind), repeat=length):
                    told = reached(kind, row)
                    self.assertIs(type(told), tuple)
                    self.assertEqual(told, slow_reached(kind, row))

    def test_long_rows_that_come_and_that_stop(self):
        rnd = random.Random(8)
        stopped = 0
        for _ in range(150):
            kind = random_kind(rnd, most_answers=2, least_answers=rnd.choice((0, 1)))
            calls = walked_calls(rnd, kind, rnd.randint(1, 60))
            self.assertNotEqual(reached(kind, calls), ())
            last = (kind.start,)
            for length in range(len(calls) + 1):
                last = reached(kind, calls[:length])
                self.assertEqual(last, tuple(sorted(last)))
            for method, argument, result in all_calls(kind):
                step = {after for state in last
                        for told, after in kind.answers(state, method, argument) if told == result}
                row = (calls + [[method, argument, result]])[:60]
                if len(calls) < 60:
                    self.assertEqual(reached(kind, row), tuple(sorted(step)))
                    if not step and len(row) < 60:
                        stopped += 1
                        self.assertEqual(reached(kind, row + calls[:60 - len(row)]), ())
        self.assertGreater(stopped, 50)

    def test_several_states(self):
        kind = Kind(8, 5, {"m": (1, 1, [[[(0, after) for after in range(8)]]] * 8)})
        self.assertEqual(reached(kind, []), (5,))
        self.assertEqual(reached(kind, [("m", 0, 0)]), tuple(range(8)))
        self.assertEqual(reached(lossy(), [("go", 0, 0), ("go", 1, 0)]), (0, 2))

    def test_rows_of_each_form(self):
        calls = [("set", 1, 0), ("get", 0, 1)]
        for row in (calls, tuple(calls), [list(call) for call in calls], tuple(list(call) for call in calls)):
            before = repr(row)
            self.assertEqual(reached(cell(2), row), (1,))
            self.assertEqual(reached(calls=row, kind=cell(2)), (1,))
            self.assertEqual(repr(row), before)

    def test_what_is_no_row(self):
        for value in odd_values():
            if not isinstance(value, (list, tuple)):
                self.check_bad(-1, cell(2), value)
        self.check_bad(-1, cell(2), [("get", 0, 0)] * 61)
        self.check_bad(-1, cell(2), (("get", 0, 0),) * 61)
        self.check_bad(-1, cell(2), [None] * 61)
        self.assertEqual(reached(cell(2), [("get", 0, 0)] * 60), (0,))
        self.assertEqual(reached(cell(2), (("get", 0, 0),) * 60), (0,))

    def wrong_calls(self, kind):
        """What is no call (method, argument, result) of the kind."""
        wrong = odd_values() + ["get", ("get", 0), ("get", 0, 0, 0), ["set", 0], {"get": (0, 0)}, (0, "get", 0)]
        wrong = [value for value in wrong if value not in [["get", 0, 0], ("get", 0, 0)]]
        wrong += [(value, 0, 0) for value in odd_values() if not (type(value) is str and value in kind)]
        for name in kind.names():
            wrong += [[name, value, 0] for value in not_below(kind.arguments(name))]
            wrong += [(name, 0, value) for value in not_below(kind.results(name))]
        return wrong

    def test_wrong_elements(self):
        for kind, right in ((cell(2), ("get", 0, 0)), (cell(3, 0), ("get", 0, 0))):
            for value in self.wrong_calls(kind):
                self.check_bad(0, kind, [value])
                self.check_bad(0, kind, (value, right))
                self.check_bad(30, kind, [right] * 30 + [value] + [right] * 29)
                self.check_bad(59, kind, [right] * 59 + [value])
                self.check_bad(3, kind, [right] * 3 + [value, right, value])
                self.check_bad(-1, kind, [right] * 60 + [value])

    def test_wrong_elements_behind_the_stop(self):
        stop = ("get", 0, 1)
        self.assertEqual(reached(cell(2), [stop] * 60), ())
        for value in self.wrong_calls(cell(2)):
            self.check_bad(1, cell(2), [stop, value])
            self.check_bad(40, cell(2), [stop] * 40 + [value] + [stop] * 19)
            self.check_bad(59, cell(2), (stop,) * 59 + (value,))
        self.check_bad(2, cell(2), [stop, stop, None, ("get", 0, True)])


class Alike(unittest.TestCase):
    def check_alike(self, one, other, longest):
        """The told row, which is held against all rows up to a length."""
        before = (one.start, rows_of(one), other.start, rows_of(other))
        told = alike(one, other)
        self.assertEqual(alike(other, one), told)
        self.assertEqual((one.start, rows_of(one), other.start, rows_of(other)), before)
        slow = slow_alike(one, other, longest)
        if slow is not None or told is None:
            self.assertEqual(told, slow)
        if told is None:
            return told
        self.assertIs(type(told), list)
        self.assertTrue(all(type(call) is tuple for call in told))
        self.assertNotEqual(bool(slow_reached(one, told)), bool(slow_reached(other, told)))
        self.assertEqual(bool(slow_reached(one, told[:-1])), bool(slow_reached(other, told[:-1])))
        return told

    def test_equal_kinds(self):
        for kind in some_kinds():
            self.assertIsNone(self.check_alike(kind, Kind(kind.states, kind.start, rows_of(kind)), 2))

    def test_states_in_another_order(self):
        for places in permutations(range(3)):
            for kind in (cell(3), lossy(), counter(3)):
                self.assertIsNone(self.check_alike(kind, renumbered(kind, places), 3))
        rnd = random.Random(9)
        for _ in range(40):
            kind = random_kind(rnd)
            places = rnd.sample(range(kind.states), kind.states)
            self.assertIsNone(alike(kind, renumbered(kind, places)))

    def test_another_start(self):
        self.assertEqual(alike(one=cell(2), other=cell(2, 1)), [("get", 0, 0)])
        self.assertEqual(alike(cell(3, 1), cell(3, 2)), [("get", 0, 1)])
        self.assertEqual(alike(queue(2, 2).with_start(1), queue(2, 2).with_start(3)), [("put", 0, 0)])
        self.assertEqual(alike(queue(2, 2).with_start(3), queue(2, 2).with_start(4)),
                         [("take", 0, 1), ("take", 0, 1)])
        for kind in some_kinds():
            for start in range(kind.states):
                self.check_alike(kind, kind.with_start(start), 3)

    def test_more_states_that_behave_alike(self):
        self.assertIsNone(alike(swap(2), Kind(4, 2, {"swap": (2, 2, [
            [[(state % 2, argument + 2 * (state < 2))] for argument in range(2)] for state in range(4)])})))
        one = Kind(1, 0, {"m": (1, 2, [[[(0, 0), (1, 0)]]])})
        other = Kind(3, 1, {"m": (1, 2, [[[(1, 0), (0, 1)]], [[(0, 2), (1, 0)]], [[(1, 1), (0, 2)]]])})
        self.assertIsNone(self.check_alike(one, other, 6))

    def test_a_guess_made_early_or_late(self):
        # The words of both are told ahead of the choice or behind it: all rows are alike.
        late = Kind(4, 0, {"m": (1, 3, [[[(0, 1)]], [[(1, 2), (2, 2)]], [[]], [[]]])})
        early = Kind(4, 0, {"m": (1, 3, [[[(0, 1), (0, 3)]], [[(1, 2)]], [[]], [[(2, 2)]]])})
        self.assertIsNone(self.check_alike(late, early, 4))
        self.assertEqual(self.check_alike(late, early.with_start(1), 4), [("m", 0, 0)])

    def test_one_answer_more_or_less(self):
        rnd = random.Random(10)
        parted = same = 0
        for _ in range(250):
            kind = random_kind(rnd, most_states=3, most_methods=2, most_numbers=2, most_answers=rnd.choice((1, 2, 4)))
            told = self.check_alike(kind, changed_kind(rnd, kind), 3 if len(all_calls(kind)) > 3 else 5)
            parted += told is not None
            same += told is None
        self.assertGreater(parted, 40)
        self.assertGreater(same, 40)

    def test_two_kinds_by_chance(self):
        rnd = random.Random(11)
        answers = list(product(range(2), range(4)))

        def some():
            return Kind(4, 0, {"m": (1, 2, [[rnd.sample(answers, rnd.choice((1, 2, 2, 3)))] for _ in range(4)])})
        lengths = []
        for _ in range(400):
            told = self.check_alike(some(), some(), 7)
            lengths.append(None if told is None else len(told))
        for length in (None, 1, 2, 3, 4):
            self.assertIn(length, lengths)

    def test_long_rows(self):
        def chain(last):
            """Tells 0 seven times, then `last`."""
            return Kind(8, 0, {"m": (1, 2, [[[(0, (state + 1) % 8)]] if state < 7 else [[(last, 0)]]
                                            for state in range(8)])})
        self.assertEqual(alike(chain(0), chain(1)), [("m", 0, 0)] * 8)
        odd = Kind(7, 0, {"m": (1, 2, [[[(int(state == 6), (state + 1) % 7)]] for state in range(7)])})
        self.assertEqual(alike(chain(1), odd), [("m", 0, 0)] * 7)

    def test_unlike(self):
        rows = {1: [[[(0, 0)]]], 2: [[[(0, 0)], [(0, 0)]]]}
        base = Kind(1, 0, {"m": (1, 1, rows[1])})
        for other in (Kind(1, 0, {"n": (1, 1, rows[1])}), Kind(1, 0, {"m": (2, 1, rows[2])}),
                      Kind(1, 0, {"m": (1, 2, rows[1])}), Kind(1, 0, {"m": (1, 1, rows[1]), "n": (1, 1, rows[1])})):
            for one, two in ((base, other), (other, base)):
                with self.assertRaises(Unlike):
                    alike(one, two)
        for one, two in ((cell(2), cell(3)), (cell(2), flag()), (swap(2), swap(3)), (cell(2), counter(2))):
            with self.assertRaises(Unlike):
                alike(one, two)

    def test_great_kinds(self):
        rnd = random.Random(12)

        def great():
            return Kind(8, 0, {name: (4, 4, [[
                [(result, after) for result in range(4) for after in rnd.sample(range(8), rnd.choice((1, 1, 2)))]
                for _ in range(4)] for _ in range(8)]) for name in "abcd"})
        self.assertIsNone(alike(great(), great()))


if __name__ == "__main__":
    unittest.main()
