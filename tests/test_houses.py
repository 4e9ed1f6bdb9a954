"""Houses: [11.1] and [11.2]."""

import random
import unittest

from tests.helper import (lossy, not_below, odd_values, random_contract, random_house, random_kind, random_program,
                          random_things, some_kinds)
from towerup.contracts import Contract, free, only
from towerup.errors import BadHouse, NoSide, NoThing
from towerup.houses import House, plain
from towerup.programs import Side
from towerup.shelf import cell, counter, flag, queue
from towerup.things import Atomic, Weak


def example():
    """What the house of section 22 is made of."""
    block = [("call", "x", "c", "get", 0), ("call", "", "c", "set", ("plus", "x", 1)), ("return", "x")]
    side = Side({"x": (2, 0)}, {"add": block})
    return counter(2), [Atomic("c", cell(2))], only(counter(2), [["add"], ["add"]]), [side, side]


def program(*calls, names=("add",)):
    return Side({}, {name: [("call", "", thing, method, 0) for thing, method in calls] for name in names})


class Houses(unittest.TestCase):
    def part(self, *values, **named):
        with self.assertRaises(BadHouse) as caught:
            House(*values, **named)
        return caught.exception.part

    def test_attributes(self):
        kind, things, contract, sides = example()
        for house in (House(kind, things, contract, sides),
                      House(sides=tuple(sides), contract=contract, things=tuple(things), kind=kind)):
            self.assertIs(house.kind, kind)
            self.assertIs(house.contract, contract)
            self.assertEqual((house.things, house.sides), (tuple(things), tuple(sides)))
            self.assertIsInstance(house.things, tuple)
            self.assertIsInstance(house.sides, tuple)
        empty = House(kind, (), free(kind, 1), [program(names=("add", "get"))])
        self.assertEqual((empty.things, len(empty.sides)), ((), 1))

    def test_by_chance(self):
        rnd = random.Random(61)
        for _ in range(100):
            kind = random_kind(rnd)
            sides = rnd.randint(1, 3)
            things = random_things(rnd, rnd.randint(0, 4), sides)
            contract = random_contract(rnd, kind, sides)
            programs = [random_program(rnd, kind, things, side) for side in range(sides)]
            house = House(kind, things, contract, programs)
            self.assertEqual((house.things, house.sides), (tuple(things), tuple(programs)))
            for thing in things:
                self.assertIs(house.thing(name=thing.name), thing)
                self.assertIs(thing.name in house, True)

    def test_changes_have_no_effect(self):
        kind, things, contract, sides = example()
        house, same = House(kind, things, contract, sides), House(kind, things, contract, sides)
        things.append(Atomic("d", cell(2)))
        things[0] = Atomic("c", flag())
        sides.pop()
        self.assertEqual(house, same)
        self.assertEqual((len(house.things), len(house.sides)), (1, 2))
        self.assertNotIn("d", house)

    def test_things(self):
        kind, things, contract, sides = example()
        for value in odd_values():
            if not isinstance(value, (list, tuple)) or value and not (isinstance(value[0], Atomic) and len(value) == 1):
                self.assertEqual(self.part(kind, value, contract, sides), "things")
                self.assertEqual(self.part(kind, value, None, None), "things")
            if not isinstance(value, (Atomic, Weak)):
                self.assertEqual(self.part(kind, things + [value], contract, sides), "things")
                self.assertEqual(self.part(kind, (value, *things), contract, sides), "things")
        five = things + [Atomic(name, flag()) for name in ("a", "b", "d", "e")]
        self.assertEqual(self.part(kind, five, contract, sides), "things")
        self.assertEqual(len(House(kind, five[:4], contract, sides).things), 4)
        for twin in (Atomic("c", cell(2)), Atomic("c", flag()), Weak("c", "safe", 2)):
            self.assertEqual(self.part(kind, things + [twin], contract, sides), "things")
            self.assertEqual(self.part(kind, [Atomic("a", flag()), twin] + things, contract, sides), "things")
        self.assertEqual(self.part(kind, {"c": things[0]}, contract, sides), "things")

    def test_contract(self):
        kind, things, contract, sides = example()
        others = [free(cell(2), 2), free(counter(3), 2), only(cell(2), [["get"], ["get"]]), contract.rules(), [contract]]
        for value in odd_values() + others:
            self.assertEqual(self.part(kind, things, value, sides), "contract")
            self.assertEqual(self.part(kind, things, value, None), "contract")
        self.assertEqual(self.part(counter(3), things, contract, sides), "contract")
        self.assertEqual(House(counter(2), things, contract, sides).contract, contract)

    def test_no_row_of_sides(self):
        kind, things, contract, sides = example()
        for value in odd_values():
            self.assertEqual(self.part(kind, things, contract, value), "sides")
            if not isinstance(value, Side):
                self.assertEqual(self.part(kind, things, contract, [sides[0], value]), "sides")
                self.assertEqual(self.part(kind, things, contract, (value, sides[0])), "sides")
        for many in (0, 1, 3, 4):
            self.assertEqual(self.part(kind, things, contract, sides[:1] * many), "sides")
        self.assertEqual(self.part(kind, things, contract, {0: sides[0], 1: sides[1]}), "sides")

    def test_methods_that_the_contract_lets(self):
        kind = counter(2)
        some, both = program(), program(names=("add", "get"))
        House(kind, [], only(kind, [["add"], ["add", "get"]]), [some, both])
        House(kind, [], only(kind, [[], []]), [some, program(names=("more",))])
        for contract in (free(kind, 2), only(kind, [["get"], []]),
                         Contract(kind, [{(0, "add"): (0, 0), (9, "get"): (0, 0)}, {}])):
            self.assertEqual(self.part(kind, [], contract, [some, both]), "sides")
            House(kind, [], contract, [both, both])
        self.assertEqual(self.part(kind, [], only(kind, [["add"], ["get"]]), [some, some]), "sides")
        self.assertEqual(self.part(kind, [], only(kind, [["add"], ["get"]]), [program(names=("get",)), both]), "sides")
        House(kind, [], only(kind, [["add"], ["get"]]), [some, program(names=("get",))])

    def test_calls_of_things(self):
        kind = counter(2)
        things = [Atomic("c", cell(2)), Weak("w", "safe", 3, owner=1), Atomic("q", queue(1, 1))]
        contract = only(kind, [["add"]] * 2)
        right = [program(("c", "set"), ("c", "get"), ("w", "get"), ("q", "put")), program(("w", "set"), ("w", "get"))]
        House(kind, things, contract, right)
        for call in (("d", "get"), ("c", "put"), ("q", "get"), ("w", "take"), ("w", "add")):
            for side in (0, 1):
                wrong = list(right)
                wrong[side] = program(("c", "get"), call)
                self.assertEqual(self.part(kind, things, contract, wrong), "sides")
                wrong[side] = right[side].with_block("other", program(call).block("add"))
                self.assertEqual(self.part(kind, things, contract, wrong), "sides")
        self.assertEqual(self.part(kind, things, contract, right[::-1]), "sides")
        inner = Side({"x": (2, 0)}, {"add": [("if", "x", 0, [], [("while", "x", 0, [("call", "", "d", "get", 0)])])]})
        self.assertEqual(self.part(kind, things, contract, [right[0], inner]), "sides")
        House(kind, things + [Atomic("d", cell(2))], contract, [right[0], inner])

    def test_owners(self):
        kind = counter(2)
        contract = only(kind, [["add"]] * 3)
        for owner in range(3):
            things = [Weak("w", "regular", 2, owner=owner)]
            for setter in range(3):
                sides = [program(("w", "get"), ("w", "set")) if side == setter else program(("w", "get"))
                         for side in range(3)]
                if setter == owner:
                    House(kind, things, contract, sides)
                else:
                    self.assertEqual(self.part(kind, things, contract, sides), "sides")
        House(kind, [Weak("w", "safe", 2, owner=2)], only(kind, [["add"]]), [program(("w", "get"))])

    def test_thing(self):
        kind, things, contract, sides = example()
        house = House(kind, things + [Weak("x", "safe", 2)], contract, sides)
        self.assertIs(house.thing("c"), things[0])
        self.assertIs("x" in house, True)
        for value in odd_values() + ["d", "C", "cx"]:
            self.assertIs(value in house, False)
            with self.assertRaises(NoThing) as caught:
                house.thing(value)
            self.assertIs(caught.exception.name, value)

    def test_equal(self):
        kind, things, contract, sides = example()
        house = House(kind, things, contract, sides)
        self.assertTrue(house == House(*example()))
        self.assertFalse(house != House(*example()))
        other = sides[0].with_block("add", [("return", 0)])
        unlike = [House(kind, things + [Atomic("d", flag())], contract, sides),
                  House(kind, [Atomic("c", cell(2, 1))], contract, sides),
                  House(kind, things, only(kind, [["add"], []]), sides),
                  House(kind, things, contract, [sides[0], other]), House(kind, things, contract, [other, sides[0]]),
                  House(kind.with_start(1), things, only(kind.with_start(1), [["add"], ["add"]]), sides),
                  House(kind, things, only(kind, [["add"]]), sides[:1])]
        for value in unlike + odd_values():
            self.assertFalse(house == value)
            self.assertFalse(value == house)
            self.assertTrue(house != value)
        two = [Atomic("c", cell(2)), Atomic("d", cell(2))]
        self.assertNotEqual(House(kind, two, contract, sides), House(kind, two[::-1], contract, sides))


class ChangedHouses(unittest.TestCase):
    def outcome(self, function, *values):
        try:
            return function(*values)
        except BadHouse as error:
            return error.part

    def test_by_chance(self):
        rnd = random.Random(62)
        found = {}
        for _ in range(150):
            house = random_house(rnd)
            before = (house.kind, house.things, house.contract, house.sides)
            things = random_things(rnd, rnd.randint(0, 4), len(house.sides))
            contract = random_contract(rnd, house.kind, rnd.choice((len(house.sides), 2)))
            side = rnd.randrange(len(house.sides))
            other = random_program(rnd, rnd.choice((house.kind, cell(2))), rnd.choice((house.things, things)), side)
            sides = house.sides[:side] + (other,) + house.sides[side + 1:]
            for told, made in (
                    (self.outcome(house.with_things, things), (house.kind, things, house.contract, house.sides)),
                    (self.outcome(house.with_contract, contract), (house.kind, house.things, contract, house.sides)),
                    (self.outcome(house.with_side, side, other), (house.kind, house.things, house.contract, sides))):
                self.assertEqual(told, self.outcome(House, *made))
                found[isinstance(told, House)] = found.get(isinstance(told, House), 0) + 1
            self.assertEqual((house.kind, house.things, house.contract, house.sides), before)
        self.assertGreater(min(found.values()), 50)

    def test_wrong_values(self):
        house = House(*example())
        for value in odd_values():
            if value not in ([], ()) and not (isinstance(value, tuple) and value and isinstance(value[0], Atomic)):
                self.assertEqual(self.outcome(house.with_things, value), "things")
            self.assertEqual(self.outcome(house.with_contract, value), "contract")
            self.assertEqual(self.outcome(house.with_side, 1, value), "sides")
        self.assertEqual(self.outcome(house.with_things, []), "sides")
        for side in not_below(2):
            for other in (house.sides[0], None, [3]):
                with self.assertRaises(NoSide) as caught:
                    house.with_side(side, other)
                self.assertIs(caught.exception.side, side)
        other = house.sides[0].with_block("add", [("return", 1)])
        self.assertEqual(house.with_side(program=other, side=0).sides, (other, house.sides[1]))
        self.assertEqual(house.with_things(things=[Atomic("c", cell(2, 1))]).thing("c").kind.start, 1)
        self.assertEqual(house.with_contract(contract=only(counter(2), (["add", "add"], ("add",)))), house)


class Plain(unittest.TestCase):
    def test_parts(self):
        rnd = random.Random(63)
        for kind in some_kinds() + [random_kind(rnd) for _ in range(20)]:
            for contract in (free(kind, 1), free(kind, 3), random_contract(rnd, kind, 2)):
                house = plain(contract=contract, kind=kind)
                size = max([2] + [kind.results(name) for name in kind.names()])
                blocks = {name: (("call", "r", "x", name, "arg"), ("return", "r")) for name in kind.names()}
                self.assertEqual(house, House(kind, [Atomic("x", kind)], contract,
                                              [Side({"r": (size, 0)}, blocks)] * contract.sides))
                self.assertIs(house.kind, kind)
                self.assertIs(house.contract, contract)
                self.assertEqual(house.sides[0].store, (("r", size, 0),))

    def test_wrong_contract(self):
        for value in odd_values() + [free(cell(2, 1), 1), free(lossy(), 2), free(cell(3), 1)]:
            if not (isinstance(value, Contract) and value.kind == cell(2)):
                with self.assertRaises(BadHouse) as caught:
                    plain(cell(2), value)
                self.assertEqual(caught.exception.part, "contract")


if __name__ == "__main__":
    unittest.main()
