"""Towers: [16.1] to [16.5], and what [17.3] tells of them."""

import random
import unittest

from tests.helper import (
    bad_limits, counting, limits_told, locked, odd_values, random_contract, random_kind)
from towerup.contracts import Contract, free, only
from towerup.errors import BadLimit, BadSide, NoCompose, TooMany
from towerup.houses import House, plain
from towerup.kinds import Kind
from towerup.programs import Side
from towerup.runs import Running
from towerup.shelf import cell, choose, counter, flag, queue, swap
from towerup.shown import parted, shows, within
from towerup.steps import initial, moves, wrongs
from towerup.things import Atomic, Weak
from towerup.towers import composed, layers, stacked, tower_breaking
from towerup.verdicts import breaking, sizes
from towerup.waits import endless, longest


def any_kind(arguments, results, name="m"):
    """A kind of one method that may tell anything."""
    return Kind(1, 0, {name: (arguments, results, [[[(told, 0) for told in range(results)]] * arguments])})


def refused(outer, name, inner, **more):
    """The reason why the houses cannot be composed, None if they can."""
    try:
        composed(outer, name, inner, **more)
    except NoCompose as error:
        return error.why
    return None


# A slow reckoning by the words of section 16.

def inner_rows(statement):
    return statement[3:] if statement[0] in ("if", "while") else ()


def all_statements(block):
    found = []
    for statement in block:
        found.append(statement)
        for inner in inner_rows(statement):
            found += all_statements(inner)
    return found


def has_bad_return(block, bad=False):
    for at, statement in enumerate(block):
        if statement[0] == "return" and bad:
            return True
        if statement[0] == "while" and has_bad_return(statement[3], True):
            return True
        if statement[0] == "if" and any(has_bad_return(rows, bad or at < len(block) - 1) for rows in statement[3:]):
            return True
    return False


def ends(block):
    last = block[-1] if block else ("set",)
    return last[0] == "return" or last[0] == "if" and ends(last[3]) and ends(last[4])


def has_idle(block):
    def passes(rows):
        return all(row[0] in ("set", "while") or row[0] == "if" and (passes(row[3]) or passes(row[4])) for row in rows)

    return any(row[0] == "while" and passes(row[3]) for row in all_statements(block))


def depth_of(block):
    return max([0] + [1 + max(depth_of(rows) for rows in inner_rows(row)) for row in block if inner_rows(row)])


def letters(first, taken):
    return [first + sign for sign in "abcdefghijklmnopqrstuvwxyz" if first + sign not in taken]


class SlowJoin:
    """The store and the blocks of one side of the composed house."""

    def __init__(self, outer, name, inner, side):
        self.outer, self.name, self.kind = outer, name, outer.thing(name).kind
        self.host, self.guest = outer.sides[side], inner.sides[side]
        self.sizes = {variable: size for variable, size, _ in self.host.store}
        others = [thing.name for thing in outer.things if thing.name != name]
        self.things = dict(zip([thing.name for thing in inner.things], letters("i", others)))
        calls = [(method, row) for method in self.host.names() for row in all_statements(self.host.block(method))
                 if row[0] == "call" and row[2] == name]
        arguments = {self.kind.arguments(row[3]) for method, row in calls if self.argument(method, row) == "spare"}
        results = {self.kind.results(row[3]) for _, row in calls if self.kept(row) == "spare"}
        new = [("argument", size) for size in sorted(arguments)] + [("result", size) for size in sorted(results)]
        new += [variable for variable, _, _ in self.guest.store]
        self.names = dict(zip(new, letters("v", self.sizes)))
        self.store = {variable: (size, start) for variable, size, start in self.host.store}
        for key, variable in self.names.items():
            if isinstance(key, tuple):
                self.store[variable] = (key[1], 0)
        for variable, size, start in self.guest.store:
            self.store[self.names[variable]] = (size, start)

    def blocks(self):
        return {method: self.block(method, self.host.block(method)) for method in self.host.names()}

    def argument(self, method, row):
        """What "arg" becomes: a term, "spare", or None where no "arg" stands in inner's block."""
        _, local, _, called, term = row
        many = self.kind.arguments(called)
        if many == 1:
            return 0
        if type(term) is int and term < many:
            return term
        if term == "arg":
            if method in self.outer.kind.names() and self.outer.kind.arguments(method) <= many:
                return term
        elif type(term) is not int:
            variable = term if type(term) is str else term[1]
            if self.sizes[variable] <= many and variable != local:
                return term
        terms = [row[{"call": 4, "return": 1}.get(row[0], 2)] for row in all_statements(self.guest.block(called))]
        return "spare" if "arg" in terms else None

    def kept(self, row):
        """Where the results go: "", local or "spare"."""
        local, many = row[1], self.kind.results(row[3])
        return local if local == "" or many in (1, self.sizes[local]) else "spare"

    def block(self, method, rows):
        found = []
        for row in rows:
            if row[0] == "call" and row[2] == self.name:
                found += self.in_its_place(method, row)
            elif inner_rows(row):
                found.append((*row[:3], *[self.block(method, inner) for inner in row[3:]]))
            else:
                found.append(row)
        return found

    def in_its_place(self, method, row):
        block = self.guest.block(row[3])
        argument, kept = self.argument(method, row), self.kept(row)
        before, behind = [], []
        if argument == "spare":
            argument = self.names["argument", self.kind.arguments(row[3])]
            before.append(("set", argument, row[4]))
        if kept == "spare":
            kept = self.names["result", self.kind.results(row[3])]
            behind.append(("set", row[1], kept))
        if row[1] != "" and not ends(block):
            before.append(("set", kept, 0))
        return before + self.new_rows(block, argument, kept, self.kind.results(row[3])) + behind

    def new_rows(self, rows, argument, kept, many):
        def term(old):
            if type(old) is tuple:
                return ("plus", self.names[old[1]], old[2])
            return argument if old == "arg" else self.names.get(old, old)

        found = []
        for row in rows:
            if row[0] == "call":
                found.append(("call", row[1] and self.names[row[1]], self.things[row[2]], row[3], term(row[4])))
            elif row[0] == "set":
                found.append(("set", self.names[row[1]], term(row[2])))
            elif row[0] != "return":
                inner = [self.new_rows(each, argument, kept, many) for each in row[3:]]
                found.append((row[0], self.names[row[1]], term(row[2]), *inner))
            elif kept != "":
                found.append(("set", kept, 0 if many == 1 else term(row[1])))
        return found


def slow_things(outer, name, inner):
    kept = [thing for thing in outer.things if thing.name != name]
    new = letters("i", [thing.name for thing in kept])
    return kept + [Atomic(each, thing.kind) if isinstance(thing, Atomic) else
                   Weak(each, thing.word, thing.size, thing.start, owner=thing.owner)
                   for each, thing in zip(new, inner.things)]


def slow_reason(outer, name, inner):
    """The first reason of 1 to 7, None if there is none."""
    things = {thing.name: thing for thing in outer.things if isinstance(thing, Atomic)}
    if not isinstance(name, str) or name not in things:
        return "thing"
    if things[name].kind != inner.kind:
        return "kind"
    if len(outer.sides) != len(inner.sides):
        return "sides"
    called = [(guest, row[3]) for host, guest in zip(outer.sides, inner.sides) for method in host.names()
              for row in all_statements(host.block(method)) if row[0] == "call" and row[2] == name]
    if any(has_bad_return(guest.block(method)) for guest, method in called if method in guest.names()):
        return "return"
    if any(method not in guest.names() for guest, method in called):
        return "lacks"
    joins = [SlowJoin(outer, name, inner, side) for side in range(len(outer.sides))]
    blocks = [block for join in joins for block in join.blocks().values()]
    if any(has_idle(block) for block in blocks):
        return "idle"
    if len(slow_things(outer, name, inner)) > 4 or any(len(join.store) > 4 for join in joins):
        return "many"
    return "many" if any(len(all_statements(block)) > 12 or depth_of(block) > 2 for block in blocks) else None


def slow_composed(outer, name, inner):
    joins = [SlowJoin(outer, name, inner, side) for side in range(len(outer.sides))]
    return House(outer.kind, slow_things(outer, name, inner), outer.contract,
                 [Side(join.store, join.blocks()) for join in joins])


def slow_pairs(outer, name, inner):
    """(how many pairs of a state and modes come, whether all calls of the thing are let and none is wrong)."""
    at = [thing.name for thing in outer.things].index(name)
    rules = inner.contract.rules()
    first = (initial(outer), (0,) * len(outer.sides))
    met, todo, right = {first}, [first], True
    while todo:
        state, modes = todo.pop()
        calls = {}
        for side, part in enumerate(state[0]):
            if part[1] == 1:
                row = all_statements(outer.sides[side].block(part[2]))[part[4]]
                if row[2] == name:
                    calls[side] = row
        for side, row in calls.items():
            if (modes[side], row[3]) not in rules[side] or side in wrongs(outer, state):
                right = False
        for step, behind in moves(outer, state):
            further = list(modes)
            if step[0] in calls:
                called = calls[step[0]][3]
                if (modes[step[0]], called) not in rules[step[0]]:
                    continue
                # The result is that of the answer which leads to this state of the thing, found by its index.
                part = state[0][step[0]]
                term = calls[step[0]][4]
                value = slow_value(outer.sides[step[0]], part, term) % outer.things[at].kind.arguments(called)
                result, after = outer.things[at].kind.answers(state[1][at][0], called, value)[step[3]]
                assert behind[1][at] == (after,)
                further[step[0]] = rules[step[0]][modes[step[0]], called][result]
            pair = (behind, tuple(further))
            if pair not in met:
                met.add(pair)
                todo.append(pair)
    return len(met), right


def slow_value(program, part, term):
    values = {name: (part[5][at], size) for at, (name, size, _) in enumerate(program.store)}
    if isinstance(term, tuple):
        return (values[term[1]][0] + term[2]) % values[term[1]][1]
    return part[3] if term == "arg" else term if isinstance(term, int) else values[term][0]


# Drawn houses that can often be composed.

def drawn_block(rnd, store, calls, most):
    """A short block; its returns mostly stand where they may."""
    def term():
        return rnd.choice([0, 1, 2, 3, "arg", "arg"] + [rnd.choice((name, ("plus", name, rnd.randrange(4))))
                                                       for name in store])

    def local(word):
        return rnd.choice(sorted(store) + [""] * (word == "call"))

    def statement(depth):
        word = rnd.choice(["call"] * 5 + (["set"] + ["if", "while"] * (depth < 2)) * bool(store))
        if word == "call" and calls:
            return ("call", local(word), *rnd.choice(calls), term())
        if word == "set":
            return ("set", local(word), term())
        if word == "if":
            return ("if", local(word), term(), [statement(depth + 1)] * rnd.randint(0, 1), end(depth + 1))
        if word == "while" and calls:
            return ("while", local(word), term(), [("call", local("call"), *rnd.choice(calls), term())])
        return ("if", sorted(store)[0], 0, [], []) if store and depth < 2 else ("return", term())

    def end(depth):
        draw = rnd.random()
        if draw < 0.4:
            return [("return", term())]
        if draw < 0.6 and store and depth < 2:
            return [("if", local("if"), term(), end(depth + 1), end(depth + 1))]
        return []

    rows = [statement(0) for _ in range(rnd.randint(0, most))]
    while len(rows) > 0 and rows[-1][0] == "return":
        rows.pop()
    return rows + end(0)


def drawn_house(rnd, kind, sides, things, variables, contract=None):
    """A house of the kind over these things."""
    programs = []
    for side in range(sides):
        store = {name: (size, rnd.randrange(size)) for name, size in
                 [(name, rnd.randint(2, 4)) for name in rnd.sample(["x", "y", "va", "vc"], variables)]}
        calls = [(thing.name, method) for thing in things for method in thing.kind.names()
                 if isinstance(thing, Atomic) or method == "get" or thing.owner == side]
        names = kind.names() + ["more"] * (rnd.random() < 0.1 and len(kind.names()) < 4)
        blocks = {}
        while len(blocks) < len(names):
            try:
                block = drawn_block(rnd, store, calls, 2)
                Side(store, {"m": block})
                blocks[names[len(blocks)]] = block
            except BadSide:
                pass
        programs.append(Side(store, blocks))
    return House(kind, things, contract or free(kind, sides), programs)


def drawn_pair(rnd):
    """(outer, name, inner)"""
    sides = rnd.randint(1, 2)
    kind = rnd.choice([cell(2), cell(3), flag(), swap(2), swap(3), choose(2), counter(3), queue(1, 1), any_kind(2, 3),
                       any_kind(3, 1), any_kind(1, 4), random_kind(rnd, 3, 2, 4, 2)])
    name = rnd.choice(["c", "ia", "ib"])
    others = [Atomic(each, cell(2)) for each in rnd.sample(["d", "ia", "ib"], rnd.randint(0, 1)) if each != name]
    things = [Atomic(name, kind)] + others
    rnd.shuffle(things)
    outer_kind = rnd.choice([cell(2), cell(3), flag(), any_kind(4, 2), any_kind(2, 2, "get"), counter(2)])
    outer = drawn_house(rnd, outer_kind, sides, things, rnd.randint(0, 2))
    inner_things = [rnd.choice([Atomic("c", cell(2)), Atomic("x", swap(3)), Weak("w", "regular", 2, owner=0),
                                Weak("w", "safe", 3, 2, owner=sides - 1)]) for _ in range(rnd.randint(0, 1))]
    contract = random_contract(rnd, kind, sides, 2, 0.9) if rnd.random() < 0.3 else None
    inner = drawn_house(rnd, kind, sides, inner_things, rnd.randint(0, 2), contract)
    if rnd.random() < 0.25:
        inner = plain(kind, free(kind, sides))
    return outer, name, inner


class Composed(unittest.TestCase):
    def test_by_chance(self):
        rnd = random.Random(111)
        reasons = {}
        while sum(reasons.values()) < 1500:
            outer, name, inner = drawn_pair(rnd)
            try:
                sizes(outer, limit=300)
            except TooMany:
                continue
            why = slow_reason(outer, name, inner)
            many = 1
            if why is None:
                many, right = slow_pairs(outer, name, inner)
                why = None if right else "contract"
            reasons[why] = reasons.get(why, 0) + 1
            self.assertEqual(refused(outer, name, inner, limit=4000), why)
            if why is None:
                told = composed(limit=many, inner=inner, name=name, outer=outer)
                self.assertEqual(told, slow_composed(outer, name, inner))
                self.assertEqual([thing.name for thing in told.things],
                                 [thing.name for thing in slow_things(outer, name, inner)])
            if why in (None, "contract") and many > 1:
                with self.assertRaises(TooMany) as caught:
                    composed(outer, name, inner, limit=many - 1)
                self.assertEqual(caught.exception.limit, many - 1)
        for why in (None, "return", "idle", "many", "contract"):
            self.assertGreater(reasons.get(why, 0), 25, (why, reasons))

    def rows(self, host, guest, local, term, numbers=(2, 2), outer_arguments=2, method="a", more=()):
        """(store, block) of the one side behind composing one call ("call", local, "t", "m", term).

        host and guest are dicts of variables, guest with the block under "".
        """
        thing = any_kind(*numbers)
        kind = any_kind(outer_arguments, 2, "a")
        block = [("call", local, "t", "m", term)]
        blocks = {"a": block} if method == "a" else {"a": [], method: block}
        outer = House(kind, [Atomic("t", thing)], free(kind, 1), [Side(host, blocks)])
        store = {name: row for name, row in guest.items() if name}
        inner = House(thing, list(more), free(thing, 1), [Side(store, {"m": guest[""]})])
        told = composed(outer, "t", inner)
        self.assertEqual(told, slow_composed(outer, "t", inner))
        self.assertEqual((told.kind, told.contract), (kind, outer.contract))
        return told.sides[0].store, told.sides[0].block(method)

    def test_the_argument(self):
        guest = {"r": (2, 1), "": [("set", "r", "arg")]}
        spare = (("set", "va", 3), ("set", "vb", "va"))
        # A method without arguments to speak of.
        self.assertEqual(self.rows({}, guest, "", 3, (1, 2)), ((("va", 2, 1),), (("set", "va", 0),)))
        # Integers.
        self.assertEqual(self.rows({}, guest, "", 1, (2, 2)), ((("va", 2, 1),), (("set", "va", 1),)))
        self.assertEqual(self.rows({}, guest, "", 3, (4, 2)), ((("va", 2, 1),), (("set", "va", 3),)))
        self.assertEqual(self.rows({}, guest, "", 3, (3, 2)), ((("va", 3, 0), ("vb", 2, 1)), spare))
        self.assertEqual(self.rows({}, guest, "", 3, (2, 2)), ((("va", 2, 0), ("vb", 2, 1)), spare))
        # The argument of outer's method, if it is not too great and the method is one of outer's kind.
        told = (("set", "va", "arg"),)
        self.assertEqual(self.rows({}, guest, "", "arg", (2, 2), 2)[1], told)
        self.assertEqual(self.rows({}, guest, "", "arg", (3, 2), 2)[1], told)
        self.assertEqual(self.rows({}, guest, "", "arg", (2, 2), 3)[1], (("set", "va", "arg"), ("set", "vb", "va")))
        self.assertEqual(self.rows({}, guest, "", "arg", (4, 2), 2, "b")[1], (("set", "va", "arg"),
                                                                              ("set", "vb", "va")))
        # Variables.
        host = {"x": (3, 2), "y": (3, 0)}
        for term in ("x", ("plus", "x", 2), ["plus", "x", 2]):
            own = tuple(term) if isinstance(term, list) else term
            for arguments in (3, 4):
                self.assertEqual(self.rows(host, guest, "", term, (arguments, 3))[1], (("set", "va", own),))
                self.assertEqual(self.rows(host, guest, "y", term, (arguments, 3))[1],
                                 (("set", "y", 0), ("set", "va", own)))
                self.assertEqual(self.rows(host, guest, "x", term, (arguments, 3))[1],
                                 (("set", "va", own), ("set", "x", 0), ("set", "vb", "va")))
            self.assertEqual(self.rows(host, guest, "", term, (2, 3))[1], (("set", "va", own), ("set", "vb", "va")))

    def test_a_spare_argument_is_made_only_where_it_is_needed(self):
        for block in ([("set", "r", 1)], [("call", "r", "c", "get", 0)], [("if", "r", 0, [("return", "r")], [])]):
            guest = {"r": (2, 0), "": block}
            store, _ = self.rows({}, guest, "", 3, (2, 2), more=[Atomic("c", cell(2))])
            self.assertEqual(store, (("va", 2, 0),))
        # It is needed for a return that is left out, too.
        for block in ([("return", "arg")], [("if", "r", "arg", [], [])], [("while", "r", "arg", [
                ("call", "r", "c", "get", 0)])], [("call", "", "c", "set", "arg")]):
            guest = {"r": (2, 0), "": block}
            store, told = self.rows({}, guest, "", 3, (2, 2), more=[Atomic("c", cell(2))])
            self.assertEqual(store, (("va", 2, 0), ("vb", 2, 0)))
            self.assertEqual(told[0], ("set", "va", 3))
        self.assertEqual(self.rows({}, {"": [("return", "arg")]}, "", 3, (2, 2))[1], (("set", "va", 3),))

    def test_the_result(self):
        host = {"x": (3, 1)}
        some = {"": [("return", 2)]}
        none = {"": []}
        half = {"r": (2, 0), "": [("if", "r", 0, [("return", 1)], [])]}
        # Nothing is kept.
        for guest in (some, none):
            self.assertEqual(self.rows(host, guest, "", 0, (1, 3)), ((("x", 3, 1),), ()))
        self.assertEqual(self.rows(host, half, "", 0, (1, 3))[1], (("if", "va", 0, (), ()),))
        # One result.
        self.assertEqual(self.rows(host, some, "x", 0, (1, 1)), ((("x", 3, 1),), (("set", "x", 0),)))
        self.assertEqual(self.rows(host, none, "x", 0, (1, 1))[1], (("set", "x", 0),))
        self.assertEqual(self.rows(host, half, "x", 0, (1, 1))[1],
                         (("set", "x", 0), ("if", "va", 0, (("set", "x", 0),), ())))
        # As many results as local has values.
        self.assertEqual(self.rows(host, some, "x", 0, (1, 3))[1], (("set", "x", 2),))
        self.assertEqual(self.rows(host, none, "x", 0, (1, 3))[1], (("set", "x", 0),))
        self.assertEqual(self.rows(host, half, "x", 0, (1, 3))[1],
                         (("set", "x", 0), ("if", "va", 0, (("set", "x", 1),), ())))
        # More or fewer.
        for results in (2, 4):
            store = (("va", results, 0), ("x", 3, 1))
            self.assertEqual(self.rows(host, some, "x", 0, (1, results)),
                             (store, (("set", "va", 2), ("set", "x", "va"))))
            self.assertEqual(self.rows(host, none, "x", 0, (1, results)),
                             (store, (("set", "va", 0), ("set", "x", "va"))))
            self.assertEqual(self.rows(host, half, "x", 0, (1, results))[1],
                             (("set", "va", 0), ("if", "vb", 0, (("set", "va", 1),), ()), ("set", "x", "va")))
        # The argument is set first.
        self.assertEqual(self.rows(host, {"": [("if", "r", "arg", [("return", "arg")], [])], "r": (2, 0)}, "x", 3,
                                   (2, 2))[1],
                         (("set", "va", 3), ("set", "vb", 0), ("if", "vc", "va", (("set", "vb", "va"),), ()),
                          ("set", "x", "vb")))

    def test_blocks_that_end(self):
        both = [("if", "r", 0, [("return", 1)], [("if", "r", 1, [("return", 0)], [("return", "r")])])]
        told = self.rows({"x": (2, 0)}, {"r": (3, 0), "": both}, "x", 0, (1, 2))
        self.assertEqual(told[1], (("if", "va", 0, (("set", "x", 1),), (
            ("if", "va", 1, (("set", "x", 0),), (("set", "x", "va"),)),)),))

    def test_names(self):
        kind = any_kind(1, 2)
        taken = {"va": (2, 0), "vc": (3, 0)}
        outer = House(kind, [Atomic("ib", cell(2)), Atomic("ia", kind), Atomic("id", cell(2))], free(kind, 1), [
            Side(taken, {"m": [("call", "vc", "ia", "m", 0), ("call", "va", "ib", "get", 0), ("return", "vc")]})])
        inner = House(kind, [Weak("z", "safe", 3, 2), Atomic("id", swap(2))], free(kind, 1), [
            Side({"b": (4, 3)}, {"m": [("call", "b", "z", "get", 0), ("call", "", "id", "swap", ("plus", "b", 2)),
                                       ("return", ("plus", "b", 1))]})])
        told = composed(outer, "ia", inner)
        self.assertEqual(told.things, (Atomic("ib", cell(2)), Atomic("id", cell(2)), Weak("ia", "safe", 3, 2),
                                       Atomic("ic", swap(2))))
        self.assertEqual(told.sides[0].store, (("va", 2, 0), ("vb", 2, 0), ("vc", 3, 0), ("vd", 4, 3)))
        self.assertEqual(told.sides[0].block("m"), (
            ("call", "vd", "ia", "get", 0), ("call", "", "ic", "swap", ("plus", "vd", 2)),
            ("set", "vb", ("plus", "vd", 1)), ("set", "vc", "vb"),
            ("call", "va", "ib", "get", 0), ("return", "vc")))

    def test_the_order_of_the_variables(self):
        thing = Kind(1, 0, {name: (arguments, results, [[[(told, 0) for told in range(results)]] * arguments])
                            for name, arguments, results in (("m", 2, 4), ("n", 3, 2))})
        kind = any_kind(4, 2, "a")
        host = Side({"x": (3, 0)}, {"a": [("call", "", "t", "n", "arg"), ("call", "", "t", "m", "arg"),
                                         ("call", "x", "t", "m", 0)]})
        outer = House(kind, [Atomic("t", thing)], free(kind, 1), [host])
        inner = House(thing, [], free(thing, 1), [Side({}, {name: [("return", "arg")] for name in "mn"})])
        told = composed(outer, "t", inner)
        self.assertEqual(told.sides[0].store, (("va", 2, 0), ("vb", 3, 0), ("vc", 4, 0), ("x", 3, 0)))
        self.assertEqual(told.sides[0].block("a"), (
            ("set", "vb", "arg"), ("set", "va", "arg"), ("set", "vc", 0), ("set", "x", "vc")))
        # Inner's variables come last, ascending, also where nothing is called.
        idle = House(kind, [Atomic("t", thing)], free(kind, 1), [Side({}, {"a": []})])
        inner = House(thing, [], free(thing, 1), [Side({"q": (3, 2), "b": (2, 1), "z": (4, 0)}, {"m": [], "n": []})])
        self.assertEqual(composed(idle, "t", inner).sides[0].store, (("va", 2, 1), ("vb", 3, 2), ("vc", 4, 0)))

    def test_nothing_of_inner_is_called(self):
        house = counting()
        outer = house.with_things([Atomic("c", cell(2)), Atomic("o", flag())])
        inner = House(flag(), [], only(flag(), [[], []]), [Side({}, {"more": []})] * 2)
        told = composed(outer, "o", inner)
        self.assertEqual(told, house)
        self.assertIsNone(refused(outer, "o", inner, limit=sizes(outer)[0]))
        self.assertEqual(slow_pairs(outer, "o", inner), (sizes(outer)[0], True))

    def test_inside_blocks(self):
        thing = any_kind(2, 2)
        kind = any_kind(2, 2, "a")
        host = Side({"x": (2, 0)}, {"a": [
            ("while", "x", 0, [("call", "x", "t", "m", "arg")]),
            ("if", "x", 1, [("call", "", "t", "m", 1), ("return", 1)], [("if", "x", 0, [("call", "x", "t", "m", 0)],
                                                                        [])])]})
        outer = House(kind, [Atomic("t", thing)], free(kind, 1), [host])
        inner = plain(thing, free(thing, 1))
        told = composed(outer, "t", inner)
        call = ("call", "va", "ia", "m")
        self.assertEqual(told.sides[0].block("a"), (
            ("while", "x", 0, (call + ("arg",), ("set", "x", "va"))),
            ("if", "x", 1, (call + (1,), ("return", 1)), (("if", "x", 0, (call + (0,), ("set", "x", "va")), ()),))))
        self.assertIsNone(parted(told, outer))


class Reasons(unittest.TestCase):
    """Each reason alone, and with later ones together."""

    def outer(self, block=None, things=(), store=None, sides=1):
        kind = any_kind(2, 2, "a")
        block = [("call", "x", "t", "m", 0), ("return", "x")] if block is None else block
        return House(kind, [Atomic("t", any_kind(2, 2))] + list(things), free(kind, sides),
                     [Side(store or {"x": (2, 0)}, {"a": block})] * sides)

    def inner(self, block=None, things=(), store=None, sides=1, method="m", contract=None):
        kind = any_kind(2, 2)
        block = [("return", 1)] if block is None else block
        contract = contract if contract is not None else (free(kind, sides) if method == "m" else only(kind, [[]] * sides))
        return House(kind, things, contract, [Side(store or {}, {method: block})] * sides)

    def check(self, why, outer, inner, name="t"):
        """The reason stands ahead of all limits."""
        self.assertEqual(slow_reason(outer, name, inner), why)
        for limit in (2000, 1, 0, None, 4001, "1"):
            self.assertEqual(refused(outer, name, inner, limit=limit), why)

    # Houses in which much is wrong: the idle loop of outer calls a method whose block calls nothing.
    LOOP = [("while", "x", 0, [("call", "x", "t", "m", 0)])]
    GREAT = {name: (2, 0) for name in "abcd"}
    EARLY = [("while", "a", 0, [("return", 0)])]

    def test_none(self):
        self.assertIsNone(refused(self.outer(), "t", self.inner()))

    def test_thing(self):
        great = self.inner(self.EARLY, store=self.GREAT, sides=2)
        outer = self.outer(self.LOOP, [Weak("w", "safe", 2)])
        for name in odd_values() + ["w", "x", "tt"]:
            self.check("thing", outer, great, name)
            self.check("thing", self.outer(things=[Weak("w", "safe", 2)]), self.inner(), name)
        cell_house = plain(cell(2), free(cell(2), 1))
        self.check("thing", outer, cell_house, "w")

    def test_kind(self):
        for other in (any_kind(2, 3), any_kind(3, 2), any_kind(2, 2, "n"), cell(2)):
            self.check("kind", self.outer(), plain(other, free(other, 1)))
            self.check("kind", self.outer(self.LOOP), plain(other, free(other, 2)))
        # The start counts, too.
        house = House(flag(), [Atomic("t", cell(2))], free(flag(), 1), [Side({}, {"test": [], "clear": []})])
        self.check("kind", house, plain(cell(2, 1), free(cell(2, 1), 1)))

    def test_sides(self):
        for sides, others in ((1, 2), (2, 1), (2, 3), (3, 1)):
            self.check("sides", self.outer(sides=sides), self.inner(sides=others))
            self.check("sides", self.outer(self.LOOP, sides=sides), self.inner(self.EARLY, store=self.GREAT,
                                                                               sides=others))
            self.check("sides", self.outer(sides=sides), self.inner(sides=others, method="n"))

    def test_return(self):
        store = {"a": (2, 0)}
        rest = ("call", "", "c", "get", 0)
        bad = [
            [("while", "a", 0, [("return", 0)])],
            [("while", "a", 0, [rest, ("if", "a", 0, [("return", 0)], [])])],
            [("if", "a", 0, [("return", 0)], []), rest],
            [("if", "a", 0, [], [("return", 0)]), ("return", 1)],
            [("if", "a", 0, [("if", "a", 1, [], [("return", 0)])], []), ("set", "a", 0)],
            [("if", "a", 0, [("if", "a", 1, [("return", 0)], []), rest], [])],
            [("if", "a", 0, [], [("while", "a", 1, [("return", 0)])])],
        ]
        good = [
            [], [rest, ("return", 0)], [("while", "a", 0, [rest]), ("return", 0)],
            [("if", "a", 0, [("return", 0)], [])],
            [rest, ("if", "a", 0, [rest, ("if", "a", 1, [("return", 0)], [rest])], [("return", 1)])],
            [("if", "a", 0, [rest], [rest]), ("return", 0)],
        ]
        things = [Atomic("c", cell(2))]
        for block in bad:
            self.check("return", self.outer(), self.inner(block, things, store))
            # With lacking methods, idle loops and too many variables.
            many = dict.fromkeys("abcd", (2, 0))
            self.check("return", self.outer(self.LOOP), self.inner(block, things, many))
            # What is not called does not matter.
            self.assertIsNone(refused(self.outer([]), "t", self.inner(block, things, store)))
        for block in good:
            self.assertIsNone(refused(self.outer(), "t", self.inner(block, things, store)))
        # Only the program of the same side counts; and methods that the contract does not let, too.
        inner = self.inner(things=things, store=store, sides=2)
        early = inner.with_side(1, Side(store, {"m": bad[0]}))
        outer = self.outer(sides=2)
        self.check("return", outer, early)
        quiet = outer.with_side(1, Side({"x": (2, 0)}, {"a": []}))
        self.assertIsNone(refused(quiet, "t", early))
        more = quiet.with_side(1, Side({"x": (2, 0)}, {"a": [], "more": [("call", "", "t", "m", 0)]}))
        self.check("return", more, early)

    def test_return_ahead_of_lacks(self):
        kind = cell(2)
        outer = House(kind, [Atomic("t", kind)], free(kind, 1), [Side({"x": (2, 0)}, {
            "get": [("call", "x", "t", "get", 0)], "set": [("call", "x", "t", "set", 0)]})])
        program = Side({"a": (2, 0)}, {"set": self.EARLY})
        self.check("return", outer, House(kind, [], only(kind, [["set"]]), [program]))
        program = Side({"a": (2, 0)}, {"set": []})
        self.check("lacks", outer, House(kind, [], only(kind, [["set"]]), [program]))

    def test_lacks(self):
        self.check("lacks", self.outer(), self.inner(method="n"))
        self.check("lacks", self.outer(self.LOOP * 4), self.inner(method="n", store=self.GREAT))
        # Also where the contract of outer lets nothing.
        silent = self.outer().with_contract(only(any_kind(2, 2, "a"), [[]]))
        self.check("lacks", silent, self.inner(method="n"))
        more = self.outer([]).with_side(0, Side({}, {"a": [], "more": [("call", "", "t", "m", 0)]}))
        self.check("lacks", more, self.inner(method="n"))

    def test_idle(self):
        self.check("idle", self.outer(self.LOOP), self.inner())
        self.check("idle", self.outer(self.LOOP), self.inner(store=self.GREAT))
        self.check("idle", self.outer(self.LOOP), self.inner([("if", "a", 0, [("return", 0)], [
            ("call", "", "c", "get", 0)])], [Atomic("c", cell(2))], {"a": (2, 0)}))
        self.assertIsNone(refused(self.outer(self.LOOP), "t", self.inner(
            [("call", "", "c", "get", 0)], [Atomic("c", cell(2))])))
        self.assertIsNone(refused(self.outer(self.LOOP), "t", self.inner([("if", "a", 0, [
            ("call", "", "c", "get", 0), ("return", 0)], [("call", "a", "c", "get", 0)])], [Atomic("c", cell(2))],
            {"a": (2, 0)})))
        # Other calls of the loop are calls.
        loop = [("while", "x", 0, [("call", "x", "t", "m", 0), ("call", "", "o", "get", 0)])]
        self.assertIsNone(refused(self.outer(loop, [Atomic("o", cell(2))]), "t", self.inner()))

    def test_many(self):
        # Things.
        cells = [Atomic(name, cell(2)) for name in "abcd"]
        self.assertIsNone(refused(self.outer(things=cells[:1]), "t", self.inner(things=cells[1:])))
        self.check("many", self.outer(things=cells[:2]), self.inner(things=cells[1:]))
        self.assertIsNone(refused(self.outer(), "t", self.inner(things=cells)))
        # Variables: one of outer, or more, and those of inner and spare ones.
        three = dict.fromkeys("abc", (2, 0))
        self.assertIsNone(refused(self.outer(), "t", self.inner(store=three)))
        self.check("many", self.outer(), self.inner(store=self.GREAT))
        self.check("many", self.outer(store={"x": (3, 0)}), self.inner(store=three))
        self.check("many", self.outer([("call", "", "t", "m", 3)]), self.inner([("return", "arg")], store=three))
        self.check("many", self.outer([]), self.inner(store=self.GREAT))
        # Statements.
        calls = [("call", "", "c", "get", 0)] * 4
        for ahead, why in ((3, None), (4, "many")):
            block = [("call", "", "t", "m", 0)] * 2 + [("set", "x", 0)] * ahead + [("return", 0)]
            told = refused(self.outer(block), "t", self.inner(calls, cells[2:3]))
            self.assertEqual(told, why)
        self.check("many", self.outer([("call", "", "t", "m", 0)] * 4), self.inner(calls, cells[2:3]))
        # Depth.
        deep = [("if", "a", 0, [("if", "a", 1, [("return", 0)], [])], [])]
        self.assertIsNone(refused(self.outer(), "t", self.inner(deep, store={"a": (2, 0)})))
        self.check("many", self.outer([("if", "x", 0, [("call", "", "t", "m", 0)], [])]),
                   self.inner(deep, store={"a": (2, 0)}))
        self.assertIsNone(refused(self.outer([("if", "x", 0, [("if", "x", 1, [("call", "", "t", "m", 0)], [])], [])]),
                                  "t", self.inner()))
        self.check("many", self.outer([("if", "x", 0, [("if", "x", 1, [("call", "", "t", "m", 0)], [])], [])]),
                   self.inner([("if", "a", 0, [], [])], store={"a": (2, 0)}))

    def test_contract(self):
        kind = any_kind(2, 2)
        twice = Contract(kind, [{(0, "m"): (1, 0)}])
        block = [("call", "x", "t", "m", 0), ("call", "x", "t", "m", 1)]
        for outer_block, contract, why in (
                (None, twice, "contract"), (block, twice, "contract"), ([], twice, None),
                (None, Contract(kind, [{}]), "contract"), (None, Contract(kind, [{(0, "m"): (0, 0)}]), None),
                (None, Contract(kind, [{(0, "m"): (1, 2), (1, "m"): (2, 0), (2, "m"): (0, 1)}]), None),
                (None, Contract(kind, [{(0, "m"): (1, 2), (1, "m"): (2, 0), (2, "m"): (0, 3)}]), "contract")):
            outer, inner = self.outer(outer_block), self.inner(contract=contract)
            many, right = slow_pairs(outer, "t", inner)
            self.assertEqual(right, why is None)
            self.assertEqual(refused(outer, "t", inner, limit=many), why)
            bad_limits(self, lambda limit: composed(outer, "t", inner, limit=limit))
            if many > 1:
                with self.assertRaises(TooMany):
                    composed(outer, "t", inner, limit=many - 1)

    def test_no_pair_comes_behind_a_call_that_is_not_let(self):
        kind = any_kind(2, 2)
        outer, inner = self.outer(), self.inner(contract=Contract(kind, [{}]))
        # The first state and those ahead of the thing, for both arguments.
        self.assertEqual(slow_pairs(outer, "t", inner), (3, False))
        with self.assertRaises(TooMany):
            composed(outer, "t", inner, limit=2)
        self.assertEqual(refused(outer, "t", inner, limit=3), "contract")

    def test_wrong_steps(self):
        # The thing cannot be called twice.
        kind = Kind(2, 0, {"go": (1, 1, [[[(0, 1)]], [[]]])})
        inner = House(kind, [], free(kind, 1), [Side({}, {"go": []})])
        once = [{(0, "clear"): (1,)}]
        for rules, why in ((once, None), ([{(0, "clear"): (0,)}], "contract")):
            outer = House(flag(), [Atomic("t", kind)], Contract(flag(), rules), [
                Side({}, {"clear": [("call", "", "t", "go", 0)]})])
            self.assertEqual(refused(outer, "t", inner), why)
            self.assertEqual(slow_pairs(outer, "t", inner)[1], why is None)
        # A wrong step at another thing does not matter.
        dead = Kind(1, 0, {"no": (1, 1, [[[]]])})
        outer = House(flag(), [Atomic("t", kind), Atomic("d", dead)], only(flag(), [["clear"]]), [
            Side({}, {"clear": [("call", "", "t", "go", 0), ("call", "", "d", "no", 0)]})])
        self.assertIsNone(refused(outer, "t", inner))

    def test_example(self):
        house = counting()
        self.check("lacks", plain(house.kind, house.contract), house, "x")

    def test_bad_limits(self):
        bad_limits(self, lambda limit: composed(self.outer(), "t", self.inner(), limit=limit))
        with self.assertRaises(TypeError):
            composed(self.outer(), "t", self.inner(), 2000)


def passing(kind, sides, contract=None):
    """A house that does the work of each method by one call of an object of the kind."""
    return plain(kind, contract or free(kind, sides))


def adding(sides):
    """A house of a counter that adds by a counter."""
    side = Side({"r": (2, 0)}, {"add": [("call", "r", "x", "add", 0), ("return", "r")]})
    return House(counter(2), [Atomic("x", counter(2))], only(counter(2), [["add"]] * sides), [side] * sides)


def broken_cell(contract=None):
    """A house of a cell that does not keep its kind: a get tells any value."""
    any_get = Kind(1, 0, {"get": (1, 2, [[[(0, 0), (1, 0)]]])})
    get = Side({"r": (2, 0)}, {"get": [("call", "r", "y", "get", 0), ("return", "r")], "set": []})
    return House(cell(2), [Atomic("y", any_get)], contract or free(cell(2), 2), [get, get])


class Stacked(unittest.TestCase):
    def towers(self):
        """(outer, rows) with rows of none to three pairs."""
        one, two = ("c", passing(cell(2), 2)), ("ia", passing(cell(2), 2))
        lock, low = ("f", passing(flag(), 1)), ("c", passing(cell(2), 1))
        return [(counting(), []), (counting(), [one]), (counting(), [one, two]), (counting(), [one, two, two]),
                (counting(), [("c", broken_cell())]), (counting(), [one, ("ia", broken_cell())]),
                (locked(), []), (locked(), [("f", passing(flag(), 2))]),
                (locked(1), []), (locked(1), [lock]), (locked(1), [low, lock]),
                (adding(2), [("x", locked())]), (adding(1), [("x", locked(1)), ("ib", passing(flag(), 1))])]

    def needs(self, outer, rows):
        """The limits that stacked, layers and tower_breaking need, the stacked house, and the flags."""
        house, least = outer, 1
        for name, inner in rows:
            least = max(least, slow_pairs(house, name, inner)[0])
            house = composed(house, name, inner, limit=4000)
        below = [outer] + [inner for _, inner in rows]
        flags = [breaking(each, limit=4000) is None for each in below]
        more = max([least] + [sizes(each, limit=4000)[1] for each in below])
        most = more if False not in flags else max(more, sizes(house, limit=4000)[1])
        return least, more, most, house, flags

    def test_one_after_the_other(self):
        sure = 0
        for outer, rows in self.towers():
            least, more, most, house, flags = self.needs(outer, rows)
            broken = None if False not in flags else breaking(house, limit=4000)
            for some in (rows, tuple(rows), [list(row) for row in rows]):
                limits_told(self, lambda limit: stacked(limit=limit, rows=some, outer=outer), least, house)
                limits_told(self, lambda limit: layers(limit=limit, rows=some, outer=outer), more, flags)
                limits_told(self, lambda limit: tower_breaking(limit=limit, rows=some, outer=outer), most, broken)
            self.assertIs(type(layers(outer, rows, limit=4000)), list)
            # If all keep their kinds, the stacked house keeps its kind, and it is not walked through.
            if broken is None:
                self.assertIsNone(breaking(house, limit=4000))
                sure += sizes(house, limit=4000)[1] > most
        self.assertGreater(sure, 0)

    def test_by_hand(self):
        rows = [("c", passing(cell(2), 2)), ("ia", passing(cell(2), 2))]
        house = stacked(counting(), rows)
        self.assertEqual(house.sides[0].store, (("va", 2, 0), ("vb", 2, 0), ("x", 2, 0)))
        self.assertEqual(house.sides[0].block("add"), (
            ("call", "vb", "ia", "get", 0), ("set", "va", "vb"), ("set", "x", "va"),
            ("call", "vb", "ia", "set", ("plus", "x", 1)), ("set", "va", 0), ("return", "x")))
        self.assertEqual(layers(counting(), rows), [False, True, True])
        self.assertEqual(layers(counting(), [("c", broken_cell())]), [False, False])
        self.assertEqual(tower_breaking(counting(), rows), breaking(house))
        self.assertIsNone(tower_breaking(locked(1), [("f", passing(flag(), 1))]))

    def test_no_rows(self):
        house = counting()
        for rows in ([], ()):
            self.assertIs(stacked(house, rows), house)
            self.assertIs(stacked(house, rows, limit=1), house)
            self.assertEqual(layers(house, rows), [False])
            self.assertEqual(tower_breaking(house, rows), breaking(house))
            for function in (stacked, layers, tower_breaking):
                bad_limits(self, lambda limit: function(house, rows, limit=limit))

    def test_what_they_raise(self):
        outer = counting()
        right = ("c", passing(cell(2), 2))
        many = slow_pairs(outer, *right)[0]
        for function in (stacked, layers, tower_breaking):
            def told(rows, limit):
                """The error that the function raises."""
                with self.assertRaises((NoCompose, BadLimit, TooMany)) as caught:
                    function(outer, rows, limit=limit)
                error = caught.exception
                return getattr(error, "why", getattr(error, "limit", "limit"))

            # What is wrong with the first pair comes ahead of the limit, and of all that is behind it.
            self.assertEqual(told([("x", right[1]), ("c", None)], 0), "thing")
            self.assertEqual(told([("c", passing(flag(), 2)), right], 0), "kind")
            self.assertEqual(told([right, ("x", right[1])], 0), "limit")
            self.assertEqual(told([right, ("x", right[1])], many - 1), many - 1)
            self.assertEqual(told([right, ("x", right[1])], many), "thing")
            self.assertEqual(told([right, ("ia", passing(cell(2), 2, only(cell(2), [[], ["get"]])))], 2000), "contract")
            bad_limits(self, lambda limit: function(outer, [right], limit=limit))
            with self.assertRaises(TypeError):
                function(outer, [right], 2000)

    def test_what_is_passed_stays(self):
        rows = [["c", passing(cell(2), 2)]]
        for function in (stacked, layers, tower_breaking):
            function(counting(), rows)
        self.assertEqual(rows, [["c", passing(cell(2), 2)]])
        for _ in range(2):
            layers(counting(), rows).clear()
            tower_breaking(counting(), rows).clear()


class Facts(unittest.TestCase):
    """[16.4], and what [17.3] tells of towers."""

    def drawn(self, rnd, many):
        """(outer, name, inner, the composed house) with not too many states."""
        found = []
        while len(found) < many:
            outer, name, inner = drawn_pair(rnd)
            try:
                house = composed(outer, name, inner, limit=1000)
                for each in (outer, inner, house):
                    sizes(each, limit=800)
            except (NoCompose, TooMany):
                continue
            found.append((outer, name, inner, house))
        return found

    def test_within_outer(self):
        rnd = random.Random(112)
        counts = {"within": 0, "keeps": 0}
        for outer, name, inner, house in self.drawn(rnd, 150):
            try:
                told = within(house, outer, limit=4000)
            except TooMany:
                continue
            if breaking(inner) is None:
                self.assertIsNone(told)
                counts["within"] += 1
                if breaking(outer) is None:
                    self.assertIsNone(breaking(house))
                    counts["keeps"] += 1
            for _ in range(3):
                running = Running(house)
                list(running.wander([rnd.randrange(12) for _ in range(16)]))
                if told is None:
                    self.assertTrue(shows(outer, running.record().history, limit=4000))
        self.assertGreater(min(counts.values()), 8, counts)

    def test_beyond_outer(self):
        outer = plain(cell(2), free(cell(2), 2))
        house = composed(outer, "x", broken_cell())
        told = within(house, outer)
        self.assertEqual(told, [("call", 0, "get", 0), ("told", 0, 1)])
        self.assertEqual((shows(house, told), shows(broken_cell(), told), shows(outer, told)), (True, True, False))

    def test_plain_inner_houses(self):
        rnd = random.Random(113)
        alike = 0
        while alike < 40:
            outer, name, inner = drawn_pair(rnd)
            try:
                house = composed(outer, name, passing(inner.kind, len(inner.sides)), limit=1000)
                self.assertIsNone(parted(house, outer, limit=3000))
                alike += 1
            except (NoCompose, TooMany):
                continue

    def test_plain_outer_houses(self):
        rnd = random.Random(114)
        alike = 0
        while alike < 40:
            _, _, inner = drawn_pair(rnd)
            outer = plain(inner.kind, inner.contract)
            try:
                house = composed(outer, "x", inner, limit=2000)
                self.assertIsNone(parted(house, inner, limit=3000))
                alike += 1
            except (NoCompose, TooMany):
                continue

    def test_waiting(self):
        rnd = random.Random(115)
        counted = 0
        for outer, name, inner, house in self.drawn(rnd, 150):
            sides = range(len(outer.sides))
            loops = [endless(each, side) for each in (outer, inner) for side in sides]
            if breaking(inner) is not None or any(loops):
                continue
            most = max([1] + [longest(inner, side) for side in sides])
            for side in sides:
                self.assertIsNone(endless(house, side))
                self.assertLessEqual(longest(house, side), longest(outer, side) * most)
                counted += 1
        self.assertGreater(counted, 20)


if __name__ == "__main__":
    unittest.main()
