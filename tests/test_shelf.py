"""Kinds made ready and joined ones: [4.1] to [4.3]."""

import random
import unittest
from itertools import product

from tests.helper import lossy, not_below, not_between, odd_values, random_kind, rows_of, some_kinds
from towerup.errors import BadJoin, BadSetting
from towerup.kinds import Kind
from towerup.shelf import cell, choose, counter, flag, pair, queue, swap, with_deal


class ShelfCase(unittest.TestCase):
    def check_kind(self, kind, states, start, methods):
        """methods: name -> (arguments, results, function of state and argument that tells all answers)."""
        self.assertIs(type(kind), Kind)
        self.assertEqual((kind.states, kind.start, kind.names()), (states, start, sorted(methods)))
        for name, (arguments, results, answers) in methods.items():
            self.assertEqual((kind.arguments(name), kind.results(name)), (arguments, results))
            for state in range(states):
                for argument in range(arguments):
                    self.assertEqual(kind.answers(state, name, argument), answers(state, argument))

    def check_setting(self, part, call, *given, **named):
        with self.assertRaises(BadSetting) as caught:
            call(*given, **named)
        self.assertEqual(caught.exception.part, part)

    def check_join(self, part, call, *given, **named):
        with self.assertRaises(BadJoin) as caught:
            call(*given, **named)
        self.assertEqual(caught.exception.part, part)


class Ready(ShelfCase):
    def test_cell(self):
        for size in (2, 3, 4):
            parts = {"get": (1, size, lambda state, argument: ((state, state),)),
                     "set": (size, 1, lambda state, argument: ((0, argument),))}
            self.check_kind(cell(size), size, 0, parts)
            self.check_kind(cell(size=size), size, 0, parts)
            for start in range(size):
                self.check_kind(cell(size, start), size, start, parts)
                self.check_kind(cell(start=start, size=size), size, start, parts)

    def test_counter(self):
        for size in (2, 3, 4):
            parts = {"add": (1, size, lambda state, argument: ((state, 0 if state == size - 1 else state + 1),)),
                     "get": (1, size, lambda state, argument: ((state, state),))}
            self.check_kind(counter(size), size, 0, parts)
            self.check_kind(counter(size=size), size, 0, parts)

    def test_flag(self):
        self.check_kind(flag(), 2, 0, {"test": (1, 2, lambda state, argument: ((state, 1),)),
                                       "clear": (1, 1, lambda state, argument: ((0, 0),))})

    def test_swap(self):
        for size in (2, 3, 4):
            parts = {"swap": (size, size, lambda state, argument: ((state, argument),))}
            self.check_kind(swap(size), size, 0, parts)
            self.check_kind(swap(size=size), size, 0, parts)

    def test_choose(self):
        for size in (2, 3, 4):
            def answers(state, argument):
                return ((argument, argument + 1),) if state == 0 else ((state - 1, state),)
            self.check_kind(choose(size), size + 1, 0, {"choose": (size, size, answers)})
            self.check_kind(choose(size=size), size + 1, 0, {"choose": (size, size, answers)})

    def test_queue(self):
        sizes = {(1, 1): 2, (1, 2): 3, (1, 3): 4, (2, 1): 3, (2, 2): 7, (3, 1): 4}
        for (size, room), states in sizes.items():
            held = [row for length in range(room + 1) for row in sorted(product(range(size), repeat=length))]

            def put(state, argument):
                if len(held[state]) == room:
                    return ((0, state),)
                return ((1, held.index((*held[state], argument))),)

            def take(state, argument):
                if held[state] == ():
                    return ((0, 0),)
                first, *rest = held[state]
                return ((first + 1, held.index(tuple(rest))),)

            self.assertEqual(len(held), states)
            parts = {"put": (size, 2, put), "take": (1, size + 1, take)}
            self.check_kind(queue(size, room), states, 0, parts)
            self.check_kind(queue(room=room, size=size), states, 0, parts)

    def test_a_queue_by_hand(self):
        kind = queue(2, 2)      # states: (), 0, 1, 00, 01, 10, 11
        self.assertEqual([kind.answers(state, "take", 0) for state in range(7)],
                         [((0, 0),), ((1, 0),), ((2, 0),), ((1, 1),), ((1, 2),), ((2, 1),), ((2, 2),)])
        self.assertEqual([kind.answers(state, "put", 1) for state in range(7)],
                         [((1, 2),), ((1, 4),), ((1, 6),), ((0, 3),), ((0, 4),), ((0, 5),), ((0, 6),)])


class Settings(ShelfCase):
    def test_size(self):
        for call in (cell, counter, swap, choose):
            for value in not_between(2, 4):
                self.check_setting("size", call, value)
                self.check_setting("size", call, size=value)
        for value in not_between(2, 4):
            self.check_setting("size", cell, value, value)
            self.check_setting("size", cell, value, 0)
        for value in not_between(1, 3):
            for room in odd_values():
                self.check_setting("size", queue, value, room)

    def test_start(self):
        for size in (2, 3, 4):
            for value in not_below(size):
                self.check_setting("start", cell, size, value)
                self.check_setting("start", cell, start=value, size=size)

    def test_room(self):
        for size in (1, 2, 3):
            for value in not_between(1, 3):
                self.check_setting("room", queue, size, value)
                self.check_setting("room", queue, room=value, size=size)

    def test_too_many_states(self):
        for size, room in ((2, 3), (3, 2), (3, 3)):
            self.check_setting("room", queue, size, room)


def plain_kind(names, states, start=0):
    """A kind with one method of each name, unlike in each state."""
    return Kind(states, start, {
        name: (2, 3, [[[(1, (state + at) % states)], [(2, state), (0, (state + 1) % states)]]
                      for state in range(states)])
        for at, name in enumerate(names)})


class Pairs(ShelfCase):
    def check_pair(self, one, other):
        before = (rows_of(one), one.start, rows_of(other), other.start)
        joined = pair(one, other)
        width = other.states
        self.assertEqual(joined.states, one.states * width)
        self.assertEqual(joined.start, one.start * width + other.start)
        self.assertEqual(joined.names(), sorted(one.names() + other.names()))
        for name in joined.names():
            own = one if name in one else other
            self.assertEqual((joined.arguments(name), joined.results(name)),
                             (own.arguments(name), own.results(name)))
            for left, right in product(range(one.states), range(width)):
                for argument in range(own.arguments(name)):
                    if name in one:
                        ends = [(r, after * width + right) for r, after in one.answers(left, name, argument)]
                    else:
                        ends = [(r, left * width + after) for r, after in other.answers(right, name, argument)]
                    self.assertEqual(joined.answers(left * width + right, name, argument), tuple(sorted(ends)))
        self.assertEqual((rows_of(one), one.start, rows_of(other), other.start), before)

    def test_all_sizes(self):
        for left, right in product(range(1, 9), range(1, 9)):
            if left * right <= 8:
                for start, other in product(range(left), range(right)):
                    self.check_pair(plain_kind("ac", left, start), plain_kind("bd", right, other))

    def test_ready_ones(self):
        self.check_pair(cell(2, 1), flag())
        self.check_pair(flag(), cell(4, 3))
        self.check_pair(choose(3), swap(2))
        self.check_pair(queue(1, 3), swap(2))
        self.assertEqual(pair(one=cell(2), other=flag()), pair(cell(2), flag()))
        self.assertEqual(pair(cell(2), flag()).answers(3, "set", 0), ((0, 1),))

    def test_by_chance(self):
        rnd = random.Random(6)
        found = 0
        while found < 60:
            one, other = random_kind(rnd, 4), random_kind(rnd, 4)
            names = one.names() + other.names()
            if len(set(names)) == len(names) <= 4 and one.states * other.states <= 8:
                self.check_pair(one, other)
                found += 1

    def test_errors(self):
        self.check_join("names", pair, cell(2), counter(2))
        self.check_join("names", pair, cell(2), cell(2))
        self.check_join("names", pair, plain_kind("abcd", 8), plain_kind("d", 8))
        self.check_join("names", pair, one=plain_kind("abc", 1), other=plain_kind("cd", 1))
        self.check_join("methods", pair, plain_kind("abc", 1), plain_kind("de", 1))
        self.check_join("methods", pair, plain_kind("abcd", 8), plain_kind("e", 2))
        self.check_join("methods", pair, plain_kind("a", 3), plain_kind("bcde", 3))
        self.check_join("states", pair, plain_kind("a", 3), plain_kind("b", 3))
        self.check_join("states", pair, plain_kind("ab", 2), plain_kind("cd", 5))
        self.check_join("states", pair, plain_kind("ab", 8), plain_kind("cd", 2))


def slow_deal(kind, calls, state):
    """All ends of the calls from a state, by going each way for itself."""
    if len(calls) == 0:
        return {(None, state)}
    ends = set()
    for result, after in kind.answers(state, *calls[0]):
        for last, end in slow_deal(kind, calls[1:], after):
            ends.add((result if last is None else last, end))
    return ends


class Deals(ShelfCase):
    def check_deal(self, kind, name, calls):
        """True if the deal can be made."""
        ends = [slow_deal(kind, calls, state) for state in range(kind.states)]
        before = (kind.start, rows_of(kind))
        if max(len(row) for row in ends) > 8:
            self.check_join("answers", with_deal, kind, name, calls)
            return False
        dealt = with_deal(kind, name, calls)
        self.assertEqual((dealt.states, dealt.start), (kind.states, kind.start))
        self.assertEqual(dealt.names(), sorted(kind.names() + [name]))
        for old, method in rows_of(kind).items():
            self.assertEqual(rows_of(dealt)[old], method)
        self.assertEqual((dealt.arguments(name), dealt.results(name)), (1, kind.results(calls[-1][0])))
        for state, row in enumerate(ends):
            self.assertEqual(dealt.answers(state, name, 0), tuple(sorted(row)))
        self.assertEqual((kind.start, rows_of(kind)), before)
        self.assertEqual(with_deal(kind, name, [list(call) for call in calls]), dealt)
        self.assertEqual(with_deal(calls=tuple(calls), kind=kind, name=name), dealt)
        return True

    def test_by_hand(self):
        kind = with_deal(counter(3), "twice", [("add", 0), ("add", 0)])
        self.assertEqual([kind.answers(state, "twice", 0) for state in range(3)],
                         [((1, 2),), ((2, 0),), ((0, 1),)])
        kind = with_deal(cell(3, 2), "getset", [("get", 0), ("set", 1)])
        self.assertEqual((kind.results("getset"), kind.start), (1, 2))
        self.assertEqual([kind.answers(state, "getset", 0) for state in range(3)], [((0, 1),)] * 3)

    def test_missing_rows_end_a_way(self):
        kind = lossy()
        deal = with_deal(kind, "x", [("go", 0), ("ask", 0)])
        self.assertEqual([deal.answers(state, "x", 0) for state in range(3)], [((1, 1), (2, 1)), (), ()])
        deal = with_deal(kind, "x", [("ask", 0), ("go", 1), ("go", 1)])
        self.assertEqual([deal.answers(state, "x", 0) for state in range(3)], [(), ((0, 1), (1, 1)), ()])

    def test_all_rows_of_calls(self):
        for kind in (lossy(), flag(), cell(2)):
            calls = [(name, argument) for name in kind.names() for argument in range(kind.arguments(name))]
            for length in (1, 2, 3):
                for row in product(calls, repeat=length):
                    self.assertTrue(self.check_deal(kind, "deal", list(row)))

    def test_by_chance(self):
        rnd = random.Random(7)
        made = []
        for _ in range(150):
            kind = random_kind(rnd, most_methods=3)
            name = next(name for name in ("a", "b", "zzzzzzzz", "c") if name not in kind)
            calls = []
            for _ in range(rnd.randint(1, 3)):
                method = rnd.choice(kind.names())
                calls.append((method, rnd.randrange(kind.arguments(method))))
            made.append(self.check_deal(kind, name, calls))
        self.assertGreater(made.count(True), 20)
        self.assertGreater(made.count(False), 20)

    def test_number_of_answers(self):
        rows = [[[(result, after) for result in range(2) for after in range(4)]] for _ in range(5)]
        full = Kind(5, 0, {"m": (1, 3, rows)})
        self.assertTrue(self.check_deal(full, "deal", [("m", 0), ("m", 0), ("m", 0)]))
        rows[3] = [[(2, 4)]]
        self.assertFalse(self.check_deal(Kind(5, 0, {"m": (1, 3, rows)}), "deal", [("m", 0), ("m", 0)]))
        self.assertTrue(self.check_deal(Kind(5, 0, {"m": (1, 3, rows)}), "deal", [("m", 0)]))

    def test_names(self):
        for value in odd_values():
            if not (type(value) is str and 1 <= len(value) <= 8 and value.isalpha() and value.islower()):
                self.check_join("names", with_deal, flag(), value, [("test", 0)])
                self.check_join("names", with_deal, plain_kind("abcd", 2), value, value)
        for name in ("test", "clear"):
            self.check_join("names", with_deal, flag(), name, [("test", 0)])
        for name in ("a1", "abcdefghi", "A", "a ", "`", "{"):
            self.check_join("names", with_deal, flag(), name, [("test", 0)])

    def test_methods(self):
        for calls in odd_values() + [[("a", 0)]]:
            self.check_join("methods", with_deal, plain_kind("abcd", 2), "e", calls)
        self.assertEqual(len(with_deal(plain_kind("abc", 2), "e", [("a", 0)]).names()), 4)

    def test_calls(self):
        for value in odd_values():
            self.check_join("calls", with_deal, flag(), "deal", value)
            self.check_join("calls", with_deal, flag(), "deal", [value])
            self.check_join("calls", with_deal, flag(), "deal", (("test", 0), value))
            self.check_join("calls", with_deal, flag(), "deal", [("test", 0), value, ("test", 0)])
            self.check_join("calls", with_deal, flag(), "deal", [(value, 0)])
            self.check_join("calls", with_deal, flag(), "deal", [("test", 0), (value, value)])
        for kind in some_kinds():
            for name in kind.names():
                for value in not_below(kind.arguments(name)):
                    self.check_join("calls", with_deal, kind, "deal", [(name, value)])
        for call in ([], ["test"], ["test", 0, 0], ("test", 0, 0), "test", {"test": 0}):
            self.check_join("calls", with_deal, flag(), "deal", [call])
        for length in (0, 4, 5):
            self.check_join("calls", with_deal, flag(), "deal", [("test", 0)] * length)
        rows = [[[(result, after) for result in range(2) for after in range(4)]] for _ in range(3)]
        both = Kind(4, 0, {"m": (1, 3, rows + [[[(2, 0)]]])})
        self.check_join("calls", with_deal, both, "deal", [("m", 0)] * 4)
        self.check_join("answers", with_deal, both, "deal", [("m", 0)] * 3)

    def test_what_is_passed_stays(self):
        calls = [["test", 0], ["clear", 0]]
        kind = with_deal(flag(), "deal", calls)
        self.assertEqual(calls, [["test", 0], ["clear", 0]])
        calls[0][0] = "clear"
        calls.append(["test", 0])
        self.assertEqual(kind, with_deal(flag(), "deal", [("test", 0), ("clear", 0)]))


if __name__ == "__main__":
    unittest.main()
