"""Repairs: [18.1] to [18.3]."""

import random
import unittest
from itertools import product

from tests.helper import (
    any_answers, bad_limits, counting, drawn_houses, limits_told, locked, odd_values, random_contract, some_houses,
    stuck, weak_cell)
from towerup.contracts import Contract, free, only
from towerup.errors import BadHouse, BadOptions, BadSide, Broken, TooMany
from towerup.houses import House, plain
from towerup.kinds import Kind
from towerup.programs import Side
from towerup.repairs import least_choices, lets, right_choices, spare_places
from towerup.shelf import cell, counter, flag, queue, swap
from towerup.things import Atomic, Weak
from towerup.verdicts import breaking, sizes


def standings_of(house):
    return sizes(house, limit=4000)[1]


def replaced(house, things):
    """The house with these things in the places of those of their names."""
    table = {thing.name: thing for thing in things}
    return House(house.kind, [table.get(thing.name, thing) for thing in house.things], house.contract, house.sides)


def slow_right(house, options):
    """(right choices, the most standings of a house of one of the choices)"""
    names = sorted(options)
    found, most = [], 1
    for choice in product(*[range(len(options[name])) for name in names]):
        other = replaced(house, [options[name][at] for name, at in zip(names, choice)])
        most = max(most, standings_of(other))
        if breaking(other, limit=4000) is None:
            found.append(choice)
    return found, most


def slow_least(right):
    return [choice for choice in right if not any(
        other != choice and all(a <= b for a, b in zip(other, choice)) for other in right)]


def slow_spare(house):
    """(spare places, the most standings of a house without a statement)"""
    found, most = [], 1
    for side, program in enumerate(house.sides):
        for method in program.names():
            for place in range(len(list(program.walk(method)))):
                try:
                    other = house.with_side(side, program.without(method, place))
                except BadSide:
                    continue
                most = max(most, standings_of(other))
                if breaking(other, limit=4000) is None:
                    found.append((side, method, place))
    return found, most


def slow_lets(house):
    """(greatest lots, the standings of the house with all calls of mode 0)"""
    pairs = [(side, method) for side in range(len(house.sides)) for method in house.contract.methods(side, 0)]
    right, most = [], 1
    for chosen in product((False, True), repeat=len(pairs)):
        lot = [pair for pair, taken in zip(pairs, chosen) if taken]
        rules = [{(0, method): (0,) * house.kind.results(method) for own, method in lot if own == side}
                 for side in range(len(house.sides))]
        other = House(house.kind, house.things, Contract(house.kind, rules), house.sides)
        most = max(most, standings_of(other))
        if breaking(other, limit=4000) is None:
            right.append(lot)
    return sorted(tuple(lot) for lot in right if not any(set(lot) < set(more) for more in right)), most


def two_cells(words=("safe", "safe"), gets=1):
    """Side 0 sets one cell and then another one; side 1 gets both and tells whether they are the same."""
    kind = Kind(1, 0, {"put": (2, 1, [[[(0, 0)]] * 2]), "same": (1, 2, [[[(0, 0), (1, 0)]]])})
    things = [Weak("a", words[0], 2), Weak("b", words[1], 2)]
    put = [("call", "", "a", "set", "arg"), ("call", "", "b", "set", "arg")]
    same = [("call", "x", "a", "get", 0), ("call", "y", "b", "get", 0), ("if", "x", "y", [("return", 1)], [])] * gets
    sides = [Side({}, {"put": put}), Side({"x": (2, 0), "y": (2, 0)}, {"same": same})]
    return House(kind, things, only(kind, [["put"], ["same"]]), sides)


def levels(name):
    """A cell of each word and an atomic one, the weakest first."""
    return [Weak(name, "safe", 2), Weak(name, "regular", 2), Atomic(name, cell(2))]


def kinds_of(thing):
    """Things of the same name and kind."""
    found = [thing, Atomic(thing.name, thing.kind)]
    if isinstance(thing, Weak):
        found += [Weak(thing.name, word, thing.size, thing.start, owner=thing.owner) for word in ("safe", "regular")]
    return found


class Choices(unittest.TestCase):
    def check(self, house, options):
        right, most = slow_right(house, options)
        limits_told(self, lambda limit: right_choices(limit=limit, options=options, house=house), most, right)
        told = least_choices(limit=4000, options=options, house=house)
        self.assertEqual((told, type(told)), (slow_least(right), list))
        if most > 1:
            with self.assertRaises(TooMany):
                least_choices(house, options, limit=most - 1)
        return right

    def test_by_hand(self):
        house = weak_cell("safe")
        options = {"w": levels("w")}
        self.assertEqual(self.check(house, options), [(2,)])
        self.assertEqual(right_choices(house, options), [(2,)])
        self.assertEqual(least_choices(house, {"w": levels("w") + [Atomic("w", cell(2))]}), [(2,)])
        self.assertEqual(right_choices(house, {"w": tuple(levels("w")) + (Atomic("w", cell(2)),)}), [(2,), (3,)])
        # Nothing can be wrong with calls that may tell anything.
        house = two_cells()
        both = {"b": levels("b"), "a": levels("a")}
        self.assertEqual(self.check(house, both), list(product(range(3), repeat=2)))
        self.assertEqual(least_choices(house, both), [(0, 0)])

    def test_several_least_choices(self):
        # A set of the value that is there shows through a safe cell alone; it must show through both to break.
        kind = Kind(1, 0, {"put": (1, 1, [[[(0, 0)]]]), "ask": (1, 2, [[[(0, 0)]]])})
        put = [("call", "", "a", "set", 0), ("call", "", "b", "set", 0)]
        ask = [("call", "x", "a", "get", 0), ("call", "y", "b", "get", 0),
               ("if", "x", 1, [("if", "y", 1, [("return", 1)], [])], [])]
        house = House(kind, [Weak("b", "safe", 2), Weak("a", "safe", 2)], only(kind, [["put"], ["ask"]]), [
            Side({}, {"put": put}), Side({"x": (2, 0), "y": (2, 0)}, {"ask": ask})])
        options = {"a": levels("a")[:2], "b": levels("b")}
        self.assertEqual(self.check(house, options), [(0, 1), (0, 2), (1, 0), (1, 1), (1, 2)])
        self.assertEqual(least_choices(house, options), [(0, 1), (1, 0)])
        options["b"] = [Weak("b", "regular", 2), Weak("b", "safe", 2), Atomic("b", cell(2))]
        self.assertEqual(self.check(house, options), [(0, 0), (0, 2), (1, 0), (1, 1), (1, 2)])
        self.assertEqual(least_choices(house, options), [(0, 0)])

    def test_the_names_stand_in_ascending_order(self):
        house = weak_cell("safe").with_things([Weak("w", "safe", 2), Atomic("b", flag()), Atomic("z", flag())])
        options = {"z": [Atomic("z", flag())], "w": levels("w"), "b": [Atomic("b", flag())] * 2}
        self.assertEqual(self.check(house, options), [(0, 2, 0), (1, 2, 0)])
        self.assertEqual(least_choices(house, options), [(0, 2, 0)])

    def test_no_options(self):
        self.assertEqual(self.check(counting(), {}), [])
        self.assertEqual(self.check(locked(1), {}), [()])
        self.assertEqual(least_choices(locked(1), {}), [()])
        self.assertEqual(least_choices(counting(), {}), [])

    def test_by_chance(self):
        rnd = random.Random(121)
        several = 0
        for house in some_houses() + drawn_houses(rnd, 60):
            if not house.things or standings_of(house) > 300:
                continue
            names = rnd.sample([thing.name for thing in house.things], rnd.randint(1, min(2, len(house.things))))
            options = {name: [rnd.choice(kinds_of(house.thing(name))) for _ in range(rnd.randint(1, 3))]
                       for name in names}
            try:
                right = self.check(house, options)
            except (TooMany, BadHouse):
                continue
            several += 0 < len(right) < max(len(rows) for rows in options.values())
        self.assertGreater(several, 0)

    def test_wrong_options(self):
        house = House(cell(2), [Atomic("d", flag()), Weak("w", "safe", 2), Atomic("c", cell(2))], only(
            cell(2), [["set"], ["get"]]), weak_cell("safe").sides)
        good = {"w": levels("w"), "d": [Atomic("d", flag())]}
        for function in (right_choices, least_choices):
            def told(options, limit=0):
                with self.assertRaises(BadOptions) as caught:
                    function(house, options, limit=limit)
                return caught.exception.name

            for value in odd_values():
                if not isinstance(value, dict):
                    self.assertIsNone(told(value))
                if not isinstance(value, (str, list, dict)):
                    try:
                        hash(value)
                    except TypeError:
                        continue
                    self.assertIsNone(told({"x": None, value: [], **good}))
                self.assertEqual(told({"w": value}), "w")
                self.assertEqual(told({"w": [value]}), "w")
                self.assertEqual(told({"w": levels("w") + [value], "d": [Atomic("d", flag())]}), "w")
                self.assertEqual(told({"w": value, "d": 0}), "d")
                self.assertEqual(told({"z": 0, "w": value, "d": [Atomic("d", flag())]}), "w")
                if isinstance(value, str):
                    self.assertEqual(told({value: [Atomic("d", flag())]}), value)
            # No thing of the house.
            self.assertEqual(told({"z": [Atomic("z", flag())], **good}), "z")
            self.assertEqual(told({"a": [Weak("a", "safe", 2)], "w": None}), "a")
            # Other names, other kinds, too many, none.
            for row in ([Atomic("v", cell(2))], [Weak("v", "safe", 2)], [Weak("w", "safe", 2, 1)],
                        [Weak("w", "safe", 3)], [Atomic("w", flag())], [Atomic("w", cell(2, 1))], levels("w") * 2, [],
                        (), [Atomic("c", cell(2))], levels("w") + [Atomic("w", swap(2))]):
                self.assertEqual(told({"w": row, "d": [Atomic("d", flag())]}), "w")
            # A weak cell that a side sets and does not own.
            self.assertEqual(told({"w": [Weak("w", "safe", 2, owner=1)]}), "w")
            self.assertEqual(told({"w": levels("w") + [Weak("w", "regular", 2, owner=2)]}), "w")
            self.assertEqual(function(house, {"c": [Weak("c", "safe", 2, owner=2)], "w": levels("w")}), [(0, 2)])

    def test_too_many_choices(self):
        things = [Atomic(name, flag()) for name in "dcba"]
        house = House(flag(), things, only(flag(), [[]]), [Side({}, {"test": []})])

        def options(*many):
            return {name: [Atomic(name, flag())] * count for name, count in zip("abcd", many)}

        for function in (right_choices, least_choices):
            for many in ((4, 4, 4), (4, 4, 4, 1), (2, 4, 2, 4), (4, 4, 1, 4)):
                self.assertEqual(len(right_choices(house, options(*many))), 64)
                self.assertEqual(function(house, options(*many))[0], (0,) * len(many))
                bad_limits(self, lambda limit: function(house, options(*many), limit=limit))
            for many in ((4, 4, 4, 2), (3, 3, 3, 3), (4, 4, 4, 4), (3, 4, 2, 3)):
                for limit in (1, 0, None, 2000):
                    with self.assertRaises(TooMany) as caught:
                        function(house, options(*many), limit=limit)
                    self.assertEqual(caught.exception.limit, 64)
                wrong = options(*many) | {"a": [Atomic("a", flag())] * 3 + [None]}
                with self.assertRaises(BadOptions):
                    function(house, wrong, limit=0)
            with self.assertRaises(TypeError):
                function(house, {}, 2000)

    def test_limits(self):
        for function in (right_choices, least_choices):
            bad_limits(self, lambda limit: function(weak_cell("safe"), {"w": levels("w")}, limit=limit))
            with self.assertRaises(TooMany) as caught:
                function(plain(queue(2, 2), free(queue(2, 2), 2)), {})
            self.assertEqual(caught.exception.limit, 2000)

    def test_what_is_passed_stays(self):
        options = {"w": levels("w")}
        right_choices(weak_cell("safe"), options).clear()
        least_choices(weak_cell("safe"), options).clear()
        self.assertEqual(options, {"w": levels("w")})
        self.assertEqual(right_choices(weak_cell("safe"), options), [(2,)])


def spacious():
    """Keeps its kind, and would without some statements."""
    block = [("call", "l", "f", "test", 0), ("while", "l", 1, [("call", "l", "f", "test", 0), ("set", "x", "x")]),
             ("set", "x", 0), ("call", "x", "c", "get", 0), ("call", "", "c", "set", ("plus", "x", 1)),
             ("if", "x", 1, [("set", "x", 1)], []), ("call", "", "f", "clear", 0), ("return", "x")]
    side = Side({"x": (2, 0), "l": (2, 0)}, {"add": block})
    things = [Atomic("c", cell(2)), Atomic("f", flag())]
    return House(counter(2), things, only(counter(2), [["add"], ["add"]]), [side, side])


class Spare(unittest.TestCase):
    def check(self, house):
        told, most = slow_spare(house)
        most = max(most, standings_of(house))
        limits_told(self, lambda limit: spare_places(limit=limit, house=house), most, told)
        return told

    def test_by_hand(self):
        told = self.check(spacious())
        own = [place for place in told if place[0] == 0]
        # The set in the loop, the first set, the if, and what stands in it; and if the lock is never cleared,
        # nothing more is told.
        self.assertEqual(own, [(0, "add", place) for place in (3, 4, 7, 8, 9)])
        self.assertEqual(told, sorted(told))
        # A house that is only called by one side needs no lock; but without its call, place 2, the loop is idle.
        self.assertEqual(self.check(locked(1)), [(0, "add", 0), (0, "add", 1), (0, "add", 5)])

    def test_by_chance(self):
        rnd = random.Random(122)
        several = 0
        houses = [house for house in some_houses() + drawn_houses(rnd, 120) if breaking(house) is None]
        for house in houses:
            try:
                slow_spare(house)
            except TooMany:
                continue
            told = self.check(house)
            several += 0 < len(told) < sum(len(list(program.walk(method))) for program in house.sides
                                           for method in program.names())
        self.assertGreater(several, 5)

    def test_what_cannot_be_made(self):
        # Without its call the loop is idle; without the if, the loop goes round for ever, which breaks nothing.
        loop = [("while", "x", 0, [("call", "x", "c", "get", 0)]), ("return", 1)]
        kind = any_answers()
        house = House(kind, [Atomic("c", cell(2))], only(kind, [["a"]]), [Side({"x": (2, 0)}, {"a": loop})])
        self.assertEqual(self.check(house), [(0, "a", 0), (0, "a", 2)])
        # Methods that are never called have places, too.
        more = house.with_side(0, house.sides[0].with_block("zz", [("set", "x", 1), ("return", "x")]))
        self.assertEqual(self.check(more), [(0, "a", 0), (0, "a", 2), (0, "zz", 0), (0, "zz", 1)])

    def test_broken(self):
        for house in (counting(), weak_cell("safe"), stuck()):
            many = standings_of(house)
            with self.assertRaises(Broken):
                spare_places(house)
            with self.assertRaises(Broken):
                spare_places(house, limit=many)
            with self.assertRaises(TooMany) as caught:
                spare_places(house, limit=many - 1)
            self.assertEqual(caught.exception.limit, many - 1)
            bad_limits(self, lambda limit: spare_places(house, limit=limit))
        with self.assertRaises(TypeError):
            spare_places(locked(1), 2000)

    def test_a_place_whose_house_is_too_great(self):
        # Without the set in front, the variable goes through all its values.
        kind = any_answers()
        block = [("set", "x", 0), ("set", "x", ("plus", "x", 1)), ("return", 0)]
        house = House(kind, [], only(kind, [["a"]]), [Side({"x": (4, 0)}, {"a": block})])
        many = standings_of(house)
        told, most = slow_spare(house)
        self.assertGreater(most, many)
        self.assertEqual(told, [(0, "a", 0), (0, "a", 1), (0, "a", 2)])
        self.assertEqual(self.check(house), told)
        for limit in (many, most - 1):
            with self.assertRaises(TooMany):
                spare_places(house, limit=limit)


class Lets(unittest.TestCase):
    def check(self, house):
        told, most = slow_lets(house)
        limits_told(self, lambda limit: lets(limit=limit, house=house), most, told)
        self.assertTrue(all(type(lot) is tuple and type(pair) is tuple for lot in told for pair in lot))
        return told

    def test_by_hand(self):
        self.assertEqual(self.check(counting()), [((0, "add"),), ((1, "add"),)])
        self.assertEqual(self.check(locked(1)), [((0, "add"),)])
        self.assertEqual(self.check(stuck()), [()])
        self.assertEqual(self.check(weak_cell("safe")), [((0, "set"),), ((1, "get"),)])
        house = plain(flag(), free(flag(), 2))
        self.assertEqual(self.check(house), [((0, "clear"), (0, "test"), (1, "clear"), (1, "test"))])
        self.assertEqual(lets(plain(flag(), only(flag(), [[], []]))), [()])

    def test_the_order_of_the_lots(self):
        # What side 1 puts would be told by the others; alone it does no harm.
        kind = Kind(1, 0, {"ask": (1, 2, [[[(0, 0)]]]), "put": (1, 1, [[[(0, 0)]]])})
        ask = [("call", "x", "c", "get", 0), ("return", "x")]
        side = Side({"x": (2, 0)}, {"ask": ask, "put": [("call", "", "c", "set", 1)]})
        house = House(kind, [Atomic("c", cell(2))], only(kind, [["ask"], ["put"], ["ask"]]), [side] * 3)
        self.assertEqual(self.check(house), [((0, "ask"), (2, "ask")), ((1, "put"),)])

    def test_mode_0_alone(self):
        # What the contract lets in other modes does not matter; in mode 0 it may be called again and again.
        rules = [{(0, "test"): (1, 1), (1, "clear"): (0,)}, {(1, "test"): (0, 0)}]
        self.assertEqual(self.check(plain(flag(), Contract(flag(), rules))), [((0, "test"),)])
        dead = Kind(2, 0, {"go": (1, 1, [[[(0, 1)]], [[]]])})
        once = plain(dead, Contract(dead, [{(0, "go"): (1,)}]))
        self.assertIsNone(breaking(once))
        self.assertEqual(self.check(once), [()])

    def test_by_chance(self):
        rnd = random.Random(123)
        several = 0
        for house in some_houses() + drawn_houses(rnd, 50):
            if rnd.random() < 0.3:
                contract = random_contract(rnd, house.kind, len(house.sides), 2, 0.9)
                try:
                    house = house.with_contract(contract)
                except BadHouse:
                    continue
            try:
                slow_lets(house)
            except TooMany:
                continue
            several += len(self.check(house)) > 1
        self.assertGreater(several, 5)

    def test_too_many_pairs(self):
        kind = Kind(1, 0, {name: (1, 1, [[[(0, 0)]]]) for name in "abcd"})
        side = Side({}, {name: [] for name in "abcd"})

        def house(*rows):
            return House(kind, [], only(kind, rows), [side] * len(rows))

        for rows in (["abcd", "ab"], ["abc", "abc"], ["abcd", "a", "b"], ["ab", "bc", "ad"]):
            lot = tuple(sorted((at, name) for at, row in enumerate(rows) for name in row))
            self.assertEqual(lets(house(*map(list, rows))), [lot])
        for rows in (["abcd", "abc"], ["abc", "ab", "ab"], ["abcd", "abcd", "abcd"]):
            for limit in (2000, 1, 0, None):
                with self.assertRaises(TooMany) as caught:
                    lets(house(*map(list, rows)), limit=limit)
                self.assertEqual(caught.exception.limit, 64)
        # Only the calls of mode 0 count.
        rules = [{(mode, name): (0,) for mode in (0, 1) for name in "abc"}] * 2
        self.assertEqual(len(lets(House(kind, [], Contract(kind, rules), [side, side]))[0]), 6)

    def test_limits(self):
        bad_limits(self, lambda limit: lets(counting(), limit=limit))
        with self.assertRaises(TypeError):
            lets(counting(), 2000)
        with self.assertRaises(TooMany) as caught:
            lets(plain(queue(2, 2), free(queue(2, 2), 2)))
        self.assertEqual(caught.exception.limit, 2000)
        lets(counting()).clear()
        self.assertEqual(len(lets(counting())), 2)


if __name__ == "__main__":
    unittest.main()
