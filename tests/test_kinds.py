"""Kinds: [2.1] to [2.5], [3.1] to [3.4]."""

import random
import unittest

from tests.helper import (changed_kind, lossy, not_below, not_between, odd_values, random_kind, rows_of,
                          some_kinds)
from towerup.errors import BadKind, NoArgument, NoMethod, NoState
from towerup.kinds import Kind, is_single, is_total
from towerup.shelf import cell


def as_lists(value):
    if isinstance(value, (list, tuple)):
        return [as_lists(item) for item in value]
    if isinstance(value, dict):
        return {key: as_lists(item) for key, item in value.items()}
    return value


def as_tuples(value):
    if isinstance(value, (list, tuple)):
        return tuple(as_tuples(item) for item in value)
    if isinstance(value, dict):
        return {key: as_tuples(item) for key, item in value.items()}
    return value


def mixed(rnd, value):
    """The same rows, each as a list or as a tuple by chance, with answers in any order."""
    if isinstance(value, (list, tuple)):
        return rnd.choice((list, tuple))([mixed(rnd, item) for item in value])
    if isinstance(value, dict):
        return {key: mixed(rnd, item) for key, item in value.items()}
    return value


def plain_methods(states=2):
    """Fresh methods that a test may spoil."""
    return {
        "get": [1, 2, [[[[0, 0]]] for _ in range(states)]],
        "set": [2, 3, [[[[0, 0], [2, states - 1]], []] for _ in range(states)]],
    }


class KindCase(unittest.TestCase):
    def check_bad(self, part, *given):
        with self.assertRaises(BadKind) as caught:
            Kind(*given)
        self.assertEqual(caught.exception.part, part)

    def check_error(self, error, attribute, value, call, *given):
        with self.assertRaises(error) as caught:
            call(*given)
        self.assertIs(getattr(caught.exception, attribute), value)


class Told(KindCase):
    def check_tells(self, kind, states, start, methods):
        self.assertEqual((kind.states, kind.start), (states, start))
        self.assertEqual(kind.names(), sorted(methods))
        self.assertIs(type(kind.names()), list)
        for name, (arguments, results, rows) in methods.items():
            self.assertEqual((kind.arguments(name), kind.results(name)), (arguments, results))
            for state in range(states):
                for argument in range(arguments):
                    told = kind.answers(state, name, argument)
                    self.assertEqual(told, tuple(sorted(tuple(answer) for answer in rows[state][argument])))
                    self.assertTrue(all(type(answer) is tuple for answer in told))

    def test_all_sizes(self):
        rnd = random.Random(1)
        for states in range(1, 9):
            for many in range(1, 5):
                methods = {}
                for name in ["m", "abcdefgh", "z", "get"][:many]:
                    arguments, results = rnd.randint(1, 4), rnd.randint(1, 4)
                    every = [(result, after) for result in range(results) for after in range(states)]
                    methods[name] = (arguments, results, [
                        [rnd.sample(every, rnd.randint(0, min(8, len(every)))) for _ in range(arguments)]
                        for _ in range(states)])
                for start in range(states):
                    for form in (as_lists, as_tuples, lambda value: mixed(rnd, value)):
                        self.check_tells(Kind(states, start, form(methods)), states, start, methods)

    def test_rows_of_each_length(self):
        every = [(result, after) for result in range(4) for after in range(8)]
        for length in range(9):
            answers = every[length:2 * length][::-1]
            kind = Kind(8, 3, {"m": (1, 4, [[answers]] * 8)})
            self.assertEqual(kind.answers(7, "m", 0), tuple(sorted(answers)))
        self.check_bad("methods", 8, 3, {"m": (1, 4, [[every[:9]]] * 8)})

    def test_names_of_each_length(self):
        for name in ("a", "z", "ab", "abcdefgh", "zzzzzzzz"):
            self.assertEqual(Kind(1, 0, {name: (1, 1, [[[]]])}).names(), [name])

    def test_all_by_name(self):
        kind = Kind(methods=plain_methods(), start=1, states=2)
        self.assertEqual((kind.arguments(method="set"), kind.results(method="set")), (2, 3))
        self.assertEqual(kind.answers(argument=0, method="set", state=1), ((0, 0), (2, 1)))
        self.assertEqual(kind.with_start(start=0).start, 0)
        self.assertIs(is_total(kind=kind), False)
        self.assertIs(is_single(kind=kind), False)

    def test_what_was_passed_and_is_changed_afterwards(self):
        methods = plain_methods()
        kind, same = Kind(2, 0, methods), Kind(2, 0, plain_methods())
        methods["get"][2][0][0][0][1] = 1
        methods["get"][2][0][0].append([1, 1])
        methods["get"][2][1].append([[0, 0]])
        methods["get"][2].append([])
        methods["get"][0] = 2
        methods["get"] = (1, 1, [[[]], [[]]])
        methods["new"] = methods.pop("set")
        self.assertEqual(kind, same)
        self.assertEqual(kind.names(), ["get", "set"])
        self.assertEqual(kind.answers(0, "get", 0), ((0, 0),))

    def test_what_was_told_and_is_changed_afterwards(self):
        kind = Kind(2, 0, plain_methods())
        kind.names().append("more")
        kind.names().clear()
        self.assertEqual(kind.names(), ["get", "set"])

    def test_what_is_passed_stays(self):
        methods = plain_methods()
        Kind(2, 0, methods).with_start(1)
        self.assertEqual(methods, plain_methods())
        for value in odd_values():
            methods = {"get": [1, 2, [[value], value]]}
            before = repr(methods)
            self.check_bad("methods", 2, 0, methods)
            self.assertEqual(repr(methods), before)


class Equal(KindCase):
    def test_order_and_form_have_no_meaning(self):
        rnd = random.Random(2)
        for _ in range(60):
            kind = random_kind(rnd)
            methods = rows_of(kind)
            names = list(methods)
            rnd.shuffle(names)
            other = {}
            for name in names:
                arguments, results, rows = methods[name]
                other[name] = mixed(rnd, [arguments, results, [
                    [rnd.sample(answers, len(answers)) for answers in row] for row in rows]])
            self.assertTrue(kind == Kind(kind.states, kind.start, other))
            self.assertFalse(kind != Kind(kind.states, kind.start, other))

    def test_each_part_has_a_meaning(self):
        rnd = random.Random(3)
        for _ in range(60):
            kind = random_kind(rnd, most_states=7)
            for start in range(kind.states):
                self.assertEqual(kind == kind.with_start(start), start == kind.start)
            other = changed_kind(rnd, kind)
            self.assertEqual(kind == other, rows_of(kind) == rows_of(other))
            methods = rows_of(kind)
            more = {name: (a, r, rows + [[[]] * a]) for name, (a, r, rows) in methods.items()}
            self.assertFalse(kind == Kind(kind.states + 1, kind.start, more))
            name = kind.names()[0]
            arguments, results, rows = methods.pop(name)
            self.assertFalse(kind == Kind(kind.states, kind.start, {**methods, "other": (arguments, results, rows)}))
            if methods:
                self.assertFalse(kind == Kind(kind.states, kind.start, methods))
            if results < 4:
                self.assertFalse(kind == Kind(
                    kind.states, kind.start, {**methods, name: (arguments, results + 1, rows)}))
            if arguments < 4:
                longer = [list(row) + [()] for row in rows]
                self.assertFalse(kind == Kind(
                    kind.states, kind.start, {**methods, name: (arguments + 1, results, longer)}))

    def test_equal_to_nothing_else(self):
        kind = lossy()
        for value in odd_values() + [(3, 0, rows_of(kind)), rows_of(kind), Kind]:
            self.assertIs(kind == value, False)
            self.assertIs(value == kind, False)
            self.assertIs(kind != value, True)


class Names(KindCase):
    def test_in(self):
        for kind in some_kinds():
            for name in kind.names():
                self.assertIs(name in kind, True)
            for value in odd_values():
                found = any(type(value) is str and value == name for name in kind.names())
                self.assertIs(value in kind, found)

    def test_no_method(self):
        kind = lossy()
        for value in odd_values():
            self.check_error(NoMethod, "method", value, kind.arguments, value)
            self.check_error(NoMethod, "method", value, kind.results, value)
            self.check_error(NoMethod, "method", value, kind.answers, 0, value, 0)
            self.check_error(NoMethod, "method", value, kind.answers, 2, value, value)

    def test_no_state(self):
        for value in not_below(3):
            self.check_error(NoState, "state", value, lossy().answers, value, "go", 0)
            for method in odd_values():
                self.check_error(NoState, "state", value, lossy().answers, value, method, method)

    def test_no_argument(self):
        for value in not_below(2):
            self.check_error(NoArgument, "argument", value, lossy().answers, 0, "go", value)
        for value in not_below(1):
            self.check_error(NoArgument, "argument", value, lossy().answers, 2, "ask", value)


class Bad(KindCase):
    def test_states(self):
        for value in not_between(1, 8):
            self.check_bad("states", value, 0, plain_methods())
            self.check_bad("states", value, value, value)
            self.check_bad("states", value, None, plain_methods())

    def test_start(self):
        for states in range(1, 9):
            for value in not_below(states):
                self.check_bad("start", states, value, plain_methods(states))
                self.check_bad("start", states, value, value)

    def test_methods(self):
        for value in odd_values():
            self.check_bad("methods", 2, 0, value)
            self.check_bad("methods", 2, 0, {"get": value})
            self.check_bad("methods", 2, 0, {**plain_methods(), "more": value})

    def test_number_of_methods(self):
        method = plain_methods()["get"]
        for many in range(7):
            methods = {name: method for name in "abcdefg"[:many]}
            if 1 <= many <= 4:
                self.assertEqual(len(Kind(2, 0, methods).names()), many)
            else:
                self.check_bad("methods", 2, 0, methods)

    def test_names(self):
        method = plain_methods()["get"]
        keys = [None, True, 0, 1, "", "abcdefghi", "Get", "gEt", "a b", "a1", "a_b", " ", "\n", "a\n", "`", "{", "~",
                (), ("get",), (0, (1,)), -1]
        for key in keys:
            self.check_bad("methods", 2, 0, {key: method})
            self.check_bad("methods", 2, 0, {"get": method, key: method})
            self.check_bad("methods", 2, 0, {key: method, "get": method})

    def spoil(self, path, value):
        """Methods of which one part, at a path of keys and indexes, is another value."""
        methods = plain_methods()
        part = methods
        for key in path[:-1]:
            part = part[key]
        part[path[-1]] = value
        return methods

    def test_numbers_of_arguments_and_results(self):
        for place in (0, 1):
            for value in not_between(1, 4):
                self.check_bad("methods", 2, 0, self.spoil(["get", place], value))
        self.check_bad("methods", 2, 0, self.spoil(["get", 0], 2))
        self.check_bad("methods", 2, 0, self.spoil(["set", 0], 1))
        self.check_bad("methods", 2, 0, self.spoil(["set", 1], 2))
        for arguments in range(7):
            for results in range(7):
                methods = {"m": (arguments, results, [[[]] * arguments])}
                if 1 <= arguments <= 4 and 1 <= results <= 4:
                    self.assertEqual(Kind(1, 0, methods).names(), ["m"])
                else:
                    self.check_bad("methods", 1, 0, methods)

    def test_lengths(self):
        for name in ("get", "set"):
            for length in (0, 1, 2, 4):
                row = (plain_methods()[name] * 2)[:length]
                self.check_bad("methods", 2, 0, {**plain_methods(), name: row})
                self.check_bad("methods", 2, 0, {**plain_methods(), name: tuple(row)})
        for length in (0, 1, 3):
            rows = (plain_methods()["get"][2] * 2)[:length]
            self.check_bad("methods", 2, 0, self.spoil(["get", 2], rows))
        for length in (0, 1, 3):
            row = (plain_methods()["set"][2][0] * 2)[:length]
            self.check_bad("methods", 2, 0, self.spoil(["set", 2, 1], row))
        for answer in ([], [0], [0, 0, 0]):
            self.check_bad("methods", 2, 0, self.spoil(["set", 2, 1, 0, 1], answer))
            self.check_bad("methods", 2, 0, self.spoil(["set", 2, 1, 0, 1], tuple(answer)))

    def test_each_depth(self):
        right = {3: [[], ()], 4: [[1, 0], (1, 0)]}
        for depth, path in enumerate((["set"], ["set", 2], ["set", 2, 1], ["set", 2, 1, 0], ["set", 2, 1, 0, 1])):
            for value in odd_values():
                if value not in right.get(depth, []):
                    self.check_bad("methods", 2, 0, self.spoil(path, value))

    def test_answers(self):
        for state in (0, 1):
            for place in (0, 1):
                for value in not_below(3):
                    self.check_bad("methods", 2, 0, self.spoil(["set", 2, state, 0, place, 0], value))
                for value in not_below(2):
                    self.check_bad("methods", 2, 0, self.spoil(["set", 2, state, 0, place, 1], value))
        self.check_bad("methods", 2, 0, self.spoil(["set", 2, 1, 1], [[3, 0]]))
        self.check_bad("methods", 2, 0, self.spoil(["get", 2, 1, 0], [[2, 0]]))

    def test_nine_answers_or_one_twice(self):
        every = [[result, after] for result in range(3) for after in range(4)]
        self.assertEqual(len(Kind(4, 0, {"m": [1, 3, [[every[:8]]] * 4]}).answers(0, "m", 0)), 8)
        for state in range(4):
            rows = [[every[:8]] for _ in range(4)]
            for answers in (every[:9], every, every[:1] * 2, every[:4] + every[3:4], [[0, 1], (0, 1)],
                            [(0, 1), [0, 2], [0, 1]], ((2, 3), (2, 3)), every[:1] * 9):
                rows[state] = [answers]
                self.check_bad("methods", 4, 0, {"m": [1, 3, rows]})

    def test_flags_in_the_place_of_integers(self):
        self.check_bad("states", True, 0, plain_methods(1))
        self.check_bad("start", 2, False, plain_methods())
        self.check_bad("start", 2, True, plain_methods())
        for path in (["get", 0], ["set", 2, 0, 0, 0, 0], ["set", 2, 0, 0, 0, 1]):
            for value in (True, False):
                self.check_bad("methods", 2, 0, self.spoil(path, value))
        self.check_bad("methods", 1, 0, {"get": (1, True, [[[]]])})

    def test_several_wrong_ones(self):
        self.check_bad("states", 9, 9, {})
        self.check_bad("states", 0, 0, plain_methods())
        self.check_bad("start", 2, 2, {})
        self.check_bad("start", 3, 3, plain_methods(2))
        self.check_bad("methods", 3, 2, plain_methods(2))


class Starts(KindCase):
    def test_with_start(self):
        rnd = random.Random(4)
        for _ in range(40):
            kind = random_kind(rnd)
            before = (kind.states, kind.start, rows_of(kind))
            for start in range(kind.states):
                other = kind.with_start(start)
                self.assertEqual((other.states, other.start, rows_of(other)), (before[0], start, before[2]))
                self.assertEqual(other, Kind(before[0], start, before[2]))
                self.assertEqual(other.with_start(kind.start), kind)
            self.assertEqual((kind.states, kind.start, rows_of(kind)), before)

    def test_bad_start(self):
        for kind in some_kinds():
            for value in not_below(kind.states):
                with self.assertRaises(BadKind) as caught:
                    kind.with_start(value)
                self.assertEqual(caught.exception.part, "start")


class TotalAndSingle(KindCase):
    def test_each_row_taken_away(self):
        rnd = random.Random(5)
        for _ in range(20):
            kind = random_kind(rnd, most_states=4)
            full = {name: (a, r, [[list(row) or [(0, 0)] for row in part] for part in rows])
                    for name, (a, r, rows) in rows_of(kind).items()}
            self.assertIs(is_total(Kind(kind.states, 0, full)), True)
            for name, (_, _, rows) in full.items():
                for state, part in enumerate(rows):
                    for argument, row in enumerate(part):
                        part[argument] = []
                        self.assertIs(is_total(Kind(kind.states, 0, full)), False)
                        part[argument] = row

    def test_an_answer_put_to_each_row(self):
        for kind in (cell(2), cell(4), cell(3)):
            methods = as_lists(rows_of(kind))
            methods["more"] = [2, 2, [[[], [[1, 0]]] for _ in range(kind.states)]]
            self.assertIs(is_single(Kind(kind.states, 0, methods)), True)
            for _, results, rows in methods.values():
                for part in rows:
                    for argument, row in enumerate(part):
                        if len(row) == 0:
                            continue
                        part[argument] = row + [[row[0][0], (row[0][1] + 1) % kind.states]]
                        self.assertIs(is_single(Kind(kind.states, 0, methods)), False)
                        part[argument] = row

    def test_ready_kinds(self):
        self.assertEqual([is_total(kind) for kind in some_kinds()], [True] * 7 + [False])
        self.assertEqual([is_single(kind) for kind in some_kinds()], [True] * 7 + [False])
        nothing = Kind(1, 0, {"m": (1, 1, [[[]]])})
        self.assertEqual((is_total(nothing), is_single(nothing)), (False, True))


if __name__ == "__main__":
    unittest.main()
