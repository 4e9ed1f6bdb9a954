"""Programs of sides: [10.3] to [10.5]."""

import random
import unittest
from copy import deepcopy

from tests.helper import (not_below, not_between, odd_values, random_block, random_right_block, random_store,
                          side_fault, slow_name, slow_side_fault)
from towerup.errors import BadSide, NoMethod, NoPlace
from towerup.programs import Side

CALLS = [("c", "get"), ("c", "set"), ("d", "test"), ("arg", "plus")]
WHY = ("many", "statement", "local", "thing", "method", "term", "block", "deep", "dead", "idle")


def tuples(value):
    return tuple(map(tuples, value)) if isinstance(value, (list, tuple)) else value


def lists(value):
    return list(map(lists, value)) if isinstance(value, (list, tuple)) else value


def random_methods(rnd, store):
    names = rnd.sample(["a", "add", "get", "arg", "plus", "zzzzzzzz"], rnd.randint(1, 4))
    return {name: random_right_block(rnd, store, CALLS) for name in names}


def slow_walk(block, depth=0):
    """(depth, statement) in the order of places."""
    rows = []
    for statement in block:
        rows.append((depth, tuples(statement)))
        for inner in statement[3:] if statement[0] in ("if", "while") else ():
            rows += slow_walk(inner, depth + 1)
    return rows


def slow_without(block, place):
    """The block, as lists, without one statement; each gets its number, so that twins stay apart."""
    numbers = iter(range(100))

    def keep(rows):
        kept = []
        for statement in rows:
            number = next(numbers)
            row = list(statement)
            if row[0] in ("if", "while"):
                row[3:] = [keep(inner) for inner in row[3:]]
            if number != place:
                kept.append(row)
        return kept
    return keep(block)


def spots(value, way=()):
    """The ways to all values within a block."""
    for at, item in enumerate(value):
        yield way + (at,)
        if isinstance(item, list):
            yield from spots(item, way + (at,))


def spoiled(rnd, block):
    """The block, as lists, with one value replaced, left out or doubled."""
    block = lists(block)
    ways = list(spots(block))
    if not ways:
        return block
    way = rnd.choice(ways)
    row = block
    for at in way[:-1]:
        row = row[at]
    action = rnd.randrange(6)
    if action == 0:
        del row[way[-1]]
    elif action == 1:
        row.insert(way[-1], deepcopy(row[way[-1]]))
    elif action == 2:
        row[way[-1]] = rnd.choice(["call", "set", "if", "while", "return", "arg", "plus", "x", "", 0, 3, 4, True, [], "no"])
    elif action == 3:
        row[way[-1]] = deepcopy(rnd.choice(ways and [rnd.choice(block)]))
    elif action == 4:
        row[way[-1]] = rnd.choice(odd_values())
    else:
        row[way[-1]:] = []
    return block


class Sides(unittest.TestCase):
    def test_by_hand(self):
        block = [["while", "x", 0, [("call", "x", "c", "get", 0), ["if", "x", ["plus", "x", 1], [["return", "arg"]], []]]],
                 ("return", "x")]
        side = Side({"x": [2, 1], "ab": (4, 3)}, {"take": block, "add": []})
        self.assertEqual(side.store, (("ab", 4, 3), ("x", 2, 1)))
        self.assertEqual(side.names(), ["add", "take"])
        self.assertEqual(side.block("add"), ())
        self.assertEqual(side.block(method="take"), (
            ("while", "x", 0, (("call", "x", "c", "get", 0), ("if", "x", ("plus", "x", 1), (("return", "arg"),), ()))),
            ("return", "x")))
        self.assertEqual(list(side.walk(method="take")), [
            (0, 0, side.block("take")[0]), (1, 1, ("call", "x", "c", "get", 0)),
            (2, 1, ("if", "x", ("plus", "x", 1), (("return", "arg"),), ())), (3, 2, ("return", "arg")),
            (4, 0, ("return", "x"))])
        self.assertEqual(list(side.walk("add")), [])
        self.assertEqual(Side(methods={"a": ()}, store={}).store, ())

    def test_tells_what_was_passed(self):
        rnd = random.Random(41)
        deepest = set()
        for _ in range(300):
            store = random_store(rnd)
            methods = random_methods(rnd, store)
            side = Side(store, methods)
            self.assertEqual(side.store, tuple(sorted((name, row[0], row[1]) for name, row in store.items())))
            self.assertEqual(side.names(), sorted(methods))
            for name, block in methods.items():
                self.assertEqual(side.block(name), tuples(block))
                rows = slow_walk(block)
                self.assertEqual(list(side.walk(name)), [(place, *row) for place, row in enumerate(rows)])
                deepest |= {depth for depth, _ in rows}
            self.assertEqual(side, Side({name: list(row) for name, row in reversed(list(store.items()))},
                                        {name: lists(block) for name, block in reversed(list(methods.items()))}))
        self.assertEqual(deepest, {0, 1, 2})

    def test_changes_have_no_effect(self):
        store = {"x": [2, 0]}
        body = [["call", "x", "c", "get", ["plus", "x", 1]]]
        methods = {"a": [["while", "x", 0, body]], "b": []}
        side, same = Side(store, methods), Side(store, methods)
        body[0][4][2] = 3
        body.append(["return", 0])
        methods["a"].append(["return", 1])
        methods["c"] = []
        store["x"][0] = 3
        store["y"] = (2, 0)
        side.names().append("d")
        self.assertEqual(side, same)
        self.assertEqual(side.block("a"), (("while", "x", 0, (("call", "x", "c", "get", ("plus", "x", 1)),)),))
        self.assertEqual((side.store, side.names()), ((("x", 2, 0),), ["a", "b"]))

    def test_what_is_passed_stays(self):
        store, methods = {"x": [2, 0]}, {"a": [["if", "x", 0, [["return", 0]], []]]}
        before = deepcopy((store, methods))
        side = Side(store, methods)
        block = [["set", "x", 1]]
        side.with_block("b", block)
        side.without("a", 1)
        self.assertEqual((store, methods, block), (*before, [["set", "x", 1]]))
        self.assertEqual(side, Side(*before))

    def test_equal(self):
        def make():
            return [Side({"x": (2, 0)}, {"a": []}), Side({"x": (2, 1)}, {"a": []}), Side({"x": (3, 0)}, {"a": []}),
                    Side({"y": (2, 0)}, {"a": []}), Side({}, {"a": []}), Side({"x": (2, 0), "y": (2, 0)}, {"a": []}),
                    Side({"x": (2, 0)}, {"b": []}), Side({"x": (2, 0)}, {"a": [], "b": []}),
                    Side({"x": (2, 0)}, {"a": [("return", 0)]}), Side({"x": (2, 0)}, {"a": [("return", 1)]}),
                    Side({"x": (2, 0)}, {"a": [("set", "x", 1)]})]
        for at, one in enumerate(make()):
            for place, other in enumerate(make()):
                self.assertIs(one == other, at == place)
                self.assertIs(one != other, at != place)
            for value in odd_values():
                self.assertFalse(one == value)
                self.assertFalse(value == one)

    def test_no_methods(self):
        side = Side({"get": (2, 0)}, {"a": [("return", 0)], "arg": []})
        for method in odd_values():
            for ask in (side.block, lambda name: side.without(name, None), lambda name: next(side.walk(name))):
                with self.assertRaises(NoMethod) as caught:
                    ask(method)
                self.assertIs(caught.exception.method, method)
            walk = side.walk(method)
            with self.assertRaises(NoMethod):
                list(walk)


class WrongSides(unittest.TestCase):
    def check(self, store, methods, fault):
        self.assertEqual(side_fault(store, methods), fault)
        self.assertEqual(slow_side_fault(store, methods), fault)

    def test_store(self):
        block = {"a": []}
        for value in odd_values():
            if not isinstance(value, dict):
                self.check(value, block, ("", -1, "store"))
            if value != {} or not isinstance(value, dict):
                self.check(value, None, ("", -1, "store"))
            self.check({"x": value}, [], ("", -1, "store"))
            if not isinstance(value, (list, dict)) and not slow_name(value):
                try:
                    store = {value: (2, 0)}
                except TypeError:
                    continue
                self.check(store, block, ("", -1, "store"))
        for size in not_between(2, 4):
            self.check({"x": (2, 0), "y": [size, 0]}, block, ("", -1, "store"))
        for size in (2, 3, 4):
            for start in not_below(size):
                self.check({"x": (size, start)}, block, ("", -1, "store"))
            self.check({"x": (size, size - 1)}, block, None)
        for store in ({"arg": (2, 0)}, {"x": (2,)}, {"x": (2, 0, 0)}, {"X": (2, 0)}, {"abcdefghi": (2, 0)},
                      {name: (2, 0) for name in "abcde"}, [("x", (2, 0))], (("x", 2, 0),)):
            self.check(store, block, ("", -1, "store"))
        self.check({name: (2, 0) for name in ("a", "plus", "call", "set")}, block, None)

    def test_methods(self):
        for value in odd_values():
            if not isinstance(value, dict) or value == {}:
                self.check({}, value, ("", -1, "methods"))
            if not isinstance(value, (list, tuple)):
                self.check({}, {"a": [("no",)], "b": value}, ("", -1, "methods"))
            if not slow_name(value):
                try:
                    methods = {"a": [None], value: []}
                except TypeError:
                    continue
                self.check({}, methods, ("", -1, "methods"))
        self.check({}, {name: [] for name in "abcde"}, ("", -1, "methods"))
        self.check({}, {name: [] for name in "abcd"}, None)
        self.check({}, {"arg": []}, None)
        self.check({"x": (5, 0)}, {}, ("", -1, "store"))

    def check_statement(self, statement, why, place=0, ahead=(), behind=(["no"],)):
        """Alone, in an if and a while, and behind other statements."""
        store = {"x": (2, 0), "y": (3, 1)}
        call = ("call", "", "c", "get", 0)
        for before in ((), (call,), (("set", "x", 0), call)):
            for end in ((), behind):
                block = [*before, statement, *end]
                if not why and end:
                    continue
                fault = ("m", len(before), why) if why else None
                self.check(store, {"m": block}, fault)
                self.check(store, {"a": [call], "m": block, "n": [()]}, fault or ("n", 0, "statement"))
                inner = ("m", len(before) + 1, why) if why else None
                self.check(store, {"m": [("if", "x", 0, block, ["no"] if why else [])]}, inner)
                inner = ("m", len(before) + 2, why) if why else None
                self.check(store, {"m": [("if", "y", 0, [call], block)]}, inner)

    def test_statements(self):
        for value in odd_values():
            self.check_statement(value, "statement")
            if value not in ("call",):
                self.check_statement([value, 0, 0, 0, 0], "statement")
            self.check_statement(["return", value], self.term_fault(value))
        for statement in (("call", "", "c", "get"), ("call", "", "c", "get", 0, 0), ("set", "x"), ("set", "x", 0, 0),
                          ("if", "x", 0, []), ("if", "x", 0, [], [], []), ("while", "x", 0), ("while", "x", 0, [], []),
                          ("return",), ("return", 0, 0), ("Call", "", "c", "get", 0), ("ret", 0), ("",), "call",
                          ("told", 0), {"call": 0}, (("set", "x", 0),)):
            self.check_statement(statement, "statement")

    def term_fault(self, value):
        right = isinstance(value, int) and value in (0, 1, 2, 3) and value is not True and value is not False
        return None if right else "term"

    def test_locals(self):
        for value in odd_values() + ["z", "arg", "xy"]:
            self.check_statement(["set", value, None], "local")
            self.check_statement(["if", value, None, 0, 0], "local")
            self.check_statement(("while", value, 9, 0), "local")
            self.check_statement(("call", value, None, None, None), "thing" if value == "" else "local")
        for local in ("x", "y"):
            self.check_statement(("set", local, 0), None)
            self.check_statement(("call", local, "c", "get", 0), None)
        self.check_statement(("set", "", 0), "local")

    def test_things_and_methods(self):
        for value in odd_values() + ["C", "abcdefghi"]:
            if not slow_name(value):
                self.check_statement(("call", "x", value, None, None), "thing")
                self.check_statement(["call", "", "c", value, None], "method")
                self.check_statement(["call", "", "c", value, 0], "method")
        for name in ("a", "arg", "x", "plus", "abcdefgh"):
            self.check_statement(["call", "", name, name, 0], None)

    def test_terms(self):
        right = [0, 1, 2, 3, "arg", "x", "y", ("plus", "x", 0), ["plus", "y", 3]]
        wrong = [value for value in odd_values() if self.term_fault(value)]
        wrong += [4, -1, True, "plus", "z", "ARG", "", ("plus", "x"), ("plus", "x", 4), ("plus", "x", -1),
                  ("plus", "x", True), ("plus", "arg", 0), ("plus", "z", 0), ("plus", 0, 0), ("plus", "x", "y"),
                  ("plus", ("x",), 0), ("minus", "x", 0), ("x", "plus", 0), ("plus", "x", 0, 0), ["x"], ("arg",), ["arg"]]
        for why, term in [(None, term) for term in right] + [("term", term) for term in wrong]:
            self.check_statement(("return", term), why)
            self.check_statement(("set", "x", term), why)
            self.check_statement(["call", "", "c", "get", term], why)
            self.check_statement(["if", "x", term, [], []], why)
            self.check_statement(["while", "x", term, [("return", 0)]], why)
            if why:
                self.check_statement(["if", "x", term, None, None], why)
        self.check({"plus": (2, 0)}, {"m": [("set", "plus", ("plus", "plus", 1)), ("return", "plus")]}, None)
        self.check({"x": (2, 0)}, {"m": [("return", "plus")]}, ("m", 0, "term"))

    def test_blocks(self):
        for value in odd_values():
            if not isinstance(value, (list, tuple)):
                self.check_statement(("if", "x", 0, value, []), "block")
                self.check_statement(("if", "x", 0, [["no"]], value), "block")
                self.check_statement(["while", "x", 0, value], "block")

    def test_deep(self):
        store = {"x": (2, 0)}
        end = [("return", 0)]
        for inner in (("if", "x", 0, [], []), ("while", "x", 0, end)):
            for middle in (lambda block: ("if", "x", 1, [], block), lambda block: ("while", "x", 1, block + end)):
                self.check(store, {"m": [("if", "x", 0, [middle([])], [])]}, None)
                self.check(store, {"m": [("if", "x", 0, [middle([inner])], [])]}, ("m", 2, "deep"))
                self.check(store, {"m": [("set", "x", 0), ("while", "x", 0, [("set", "x", 0), middle([inner])])]},
                           ("m", 4, "deep"))
        deep = ("if", "x", 0, [("if", "x", 0, [("if", "x", 0, [["no"]], 3)], [])], [])
        self.check(store, {"m": [deep]}, ("m", 2, "block"))
        deep = ("if", "x", 0, [("if", "x", 0, [("if", "x", 0, [["no"]], [])], [])], [])
        self.check(store, {"m": [deep]}, ("m", 2, "deep"))
        self.check(store, {"m": [("if", "x", 0, [("if", "x", 0, [("set", "x", 0)] * 3, end)], end)]}, None)
        block = [("return", 0)]
        for _ in range(20):
            block = [("if", "x", 0, block, [])]
        self.check(store, {"m": block}, ("m", 2, "deep"))

    def test_many(self):
        store = {"x": (2, 0)}
        put = ("set", "x", 0)
        self.check(store, {"m": [put] * 12}, None)
        self.check(store, {"m": [put] * 13}, ("m", 12, "many"))
        self.check(store, {"m": [put] * 12 + [None]}, ("m", 12, "many"))
        self.check(store, {"m": [put] * 11 + [None]}, ("m", 11, "statement"))
        self.check(store, {"m": [put] * 6 + [("if", "x", 0, [put] * 3, [put] * 2)]}, None)
        self.check(store, {"m": [put] * 6 + [("if", "x", 0, [put] * 3, [put] * 2)] + [put]}, ("m", 12, "many"))
        self.check(store, {"m": [put] * 6 + [("if", "x", 0, [put] * 3, [put] * 3)]}, ("m", 12, "many"))
        self.check(store, {"m": [put] * 6 + [("if", "x", 0, [put] * 6, [None])]}, ("m", 12, "many"))
        self.check(store, {"a": [put] * 12, "b": [put] * 12, "c": [put] * 13, "d": [put] * 14}, ("c", 12, "many"))
        self.check(store, {"m": [put] * 1000}, ("m", 12, "many"))

    def test_dead(self):
        store, end, put = {"x": (2, 0)}, ("return", 0), ("set", "x", 0)
        ends = ("if", "x", 0, [end], [put, end])
        for last in (end, ends, ("if", "x", 0, [ends], [end])):
            size = len(slow_walk([last]))
            self.check(store, {"m": [put, last]}, None)
            self.check(store, {"m": [put, last, put]}, ("m", 1 + size, "dead"))
            if size < 6:
                self.check(store, {"m": [last, last, put]}, ("m", size, "dead"))
                self.check(store, {"m": [("while", "x", 0, [last, put])]}, ("m", 1 + size, "dead"))
                self.check(store, {"a": [put], "m": [("if", "x", 1, [put], [last, put])], "n": [end, end]},
                           ("m", 2 + size, "dead"))
        for last in (("if", "x", 0, [end], []), ("if", "x", 0, [], [end]), ("if", "x", 0, [], []),
                     ("if", "x", 0, [end], [put]), ("while", "x", 0, [end]), ("if", "x", 0, [("while", "x", 0, [end])], [end])):
            self.check(store, {"m": [last, put]}, None)

    def test_idle(self):
        store, end, put, call = {"x": (2, 0)}, ("return", 0), ("set", "x", 0), ("call", "", "c", "get", 0)
        idle = ([], [put], [put, put], [("if", "x", 0, [call], [])], [("if", "x", 0, [], [call])],
                [("if", "x", 0, [put], [end])], [("while", "x", 0, [call])], [("while", "x", 0, [end]), put])
        busy = ([call], [end], [put, call], [("if", "x", 0, [call], [end])], [("if", "x", 0, [], []), call],
                [("while", "x", 0, [call]), call], [("if", "x", 0, [put, call], [call]), put])
        for body in idle:
            self.check(store, {"m": [put, ("while", "x", 0, body)]}, ("m", 1, "idle"))
            self.check(store, {"m": [("while", "x", 0, body), end, put]}, ("m", 0, "idle"))
            self.check(store, {"m": [end, ("while", "x", 0, body)]}, ("m", 1, "dead"))
            self.check(store, {"m": [end, put, ("while", "x", 0, body)]}, ("m", 1, "dead"))
            if len(slow_walk(body, 1)) == len(body):
                self.check(store, {"m": [("while", "x", 0, [call, ("while", "x", 1, body)])]}, ("m", 2, "idle"))
                self.check(store, {"m": [("while", "x", 0, [("while", "x", 1, body)])]}, ("m", 0, "idle"))
                self.check(store, {"m": [("if", "x", 0, [call], [("while", "x", 1, body)])]}, ("m", 2, "idle"))
        for body in busy:
            self.check(store, {"m": [put, ("while", "x", 0, body)]}, None)
            self.check(store, {"m": [("if", "x", 0, [], []), ("while", "x", 0, [call])]}, None)

    def test_forms_come_first(self):
        store, end = {"x": (2, 0)}, ("return", 0)
        self.check(store, {"a": [end, end], "b": [end, ["no"]]}, ("b", 1, "statement"))
        self.check(store, {"b": [end, end], "a": [("while", "x", 0, [])], "c": []}, ("a", 0, "idle"))
        self.check(store, {"b": [("set", "y", 0)], "c": [("no",)], "a": [end, end]}, ("b", 0, "local"))

    def test_by_chance(self):
        rnd = random.Random(42)
        found = {}
        for _ in range(6000):
            store = random_store(rnd)
            if rnd.random() < 0.3:
                methods = {name: random_block(rnd, store, CALLS, rnd.choice((0, -1))) for name in ("m", "get")}
            else:
                methods = random_methods(rnd, store)
            if rnd.random() < 0.8:
                name = rnd.choice(sorted(methods))
                methods[name] = spoiled(rnd, methods[name])
            if rnd.random() < 0.1:
                methods[rnd.choice(sorted(methods))] = lists(random_block(rnd, store, CALLS)) * 4
            fault = slow_side_fault(store, methods)
            self.assertEqual(side_fault(store, methods), fault, (store, methods))
            why = fault[2] if fault else None
            found[why] = found.get(why, 0) + 1
        for why in WHY + (None,):
            self.assertGreater(found.get(why, 0), 10, (why, found))


class ChangedSides(unittest.TestCase):
    def outcome(self, function, *values):
        try:
            return function(*values)
        except BadSide as error:
            return (error.method, error.place, error.why)

    def test_with_block(self):
        rnd = random.Random(43)
        for _ in range(200):
            store = random_store(rnd)
            methods = random_methods(rnd, store)
            side, before = Side(store, methods), Side(store, methods)
            name = rnd.choice(sorted(methods) + ["new", "ab"])
            block = rnd.choice((random_block(rnd, store, CALLS), random_right_block(rnd, store, CALLS)))
            told = self.outcome(side.with_block, name, block)
            self.assertEqual(told, self.outcome(Side, store, {**methods, name: block}))
            self.assertEqual(side, before)
            if isinstance(told, Side):
                self.assertEqual(told.block(name), tuples(block))
                self.assertEqual(told.names(), sorted({*methods, name}))

    def test_with_wrong_block(self):
        side = Side({"x": (2, 0)}, {"b": [("return", 0)]})
        for value in odd_values():
            if not slow_name(value):
                self.assertEqual(self.outcome(side.with_block, value, []), ("", -1, "methods"))
                self.assertEqual(self.outcome(side.with_block, value, 3), ("", -1, "methods"))
            if not isinstance(value, (list, tuple)):
                self.assertEqual(self.outcome(side.with_block, "a", value), ("", -1, "methods"))
            self.assertEqual(self.outcome(side.with_block, "b", [value]), ("b", 0, "statement"))
        self.assertEqual(side.with_block(block=[["return", 1]], method="b"), Side({"x": (2, 0)}, {"b": [("return", 1)]}))
        full = Side({}, {name: [] for name in "abcd"})
        self.assertEqual(self.outcome(full.with_block, "e", [("no",)]), ("", -1, "methods"))
        self.assertEqual(full.with_block("d", [("return", 1)]).block("d"), (("return", 1),))

    def test_without(self):
        rnd = random.Random(44)
        bad = 0
        for _ in range(200):
            store = random_store(rnd)
            methods = random_methods(rnd, store)
            side, before = Side(store, methods), Side(store, methods)
            for name in methods:
                for place in range(len(slow_walk(methods[name]))):
                    told = self.outcome(side.without, name, place)
                    self.assertEqual(told, self.outcome(
                        Side, store, {**methods, name: slow_without(methods[name], place)}))
                    bad += isinstance(told, tuple)
            self.assertEqual(side, before)
        self.assertGreater(bad, 10)

    def test_without_by_hand(self):
        call, end = ("call", "x", "c", "get", 0), ("return", "x")
        block = (("while", "x", 0, (call, ("if", "x", 1, (end,), ()))), end)
        side = Side({"x": (2, 0)}, {"m": block})
        self.assertEqual(side.without("m", 0).block("m"), (end,))
        self.assertEqual(self.outcome(side.without, "m", 1), ("m", 0, "idle"))
        self.assertEqual(side.without("m", 2).block("m"), (("while", "x", 0, (call,)), end))
        self.assertEqual(side.without(place=3, method="m").block("m"),
                         (("while", "x", 0, (call, ("if", "x", 1, (), ()))), end))
        self.assertEqual(side.without("m", 4).block("m"), block[:1])
        self.assertEqual(side.without("m", 4).without("m", 0).block("m"), ())

    def test_no_place(self):
        side = Side({"x": (2, 0)}, {"m": [("if", "x", 0, [("set", "x", 1)], [])], "a": []})
        for name, size in (("m", 2), ("a", 0)):
            for place in not_below(size):
                with self.assertRaises(NoPlace) as caught:
                    side.without(name, place)
                self.assertIs(caught.exception.place, place)


if __name__ == "__main__":
    unittest.main()
