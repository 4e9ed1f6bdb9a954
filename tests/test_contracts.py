"""Contracts: [9.1] to [9.6]."""

import random
import unittest
from itertools import product

from tests.helper import lossy, not_below, not_between, odd_values, random_contract, random_history, random_kind, \
    random_rules, some_kinds
from towerup.contracts import Contract, both, first_breach, free, looser, only
from towerup.errors import BadContract, BadHistory, BadSides, NoMethod, NoMode, NoResult, NoSide, TooMany, Unlike
from towerup.histories import calls_of
from towerup.kinds import Kind
from towerup.shelf import cell, counter, flag, pair, queue


def two():
    """A kind with two methods of two results each, any of which may come."""
    rows = [[[(0, 0), (1, 0)]]]
    return Kind(1, 0, {"a": (1, 2, rows), "b": (1, 2, rows)})


def lined(length, last):
    """A contract of one side that lets length - 1 calls of a, one behind the other, and then those of the last row."""
    rules = {(mode, "a"): (mode + 1,) * 2 for mode in range(length - 1)}
    rules.update({(length - 1, name): (length - 1,) * 2 for name in last})
    return Contract(two(), [rules])


def all_calls(kind):
    return [(name, result) for name in kind.names() for result in range(kind.results(name))]


def mode_behind(contract, side, calls):
    """The mode behind calls, None if one of them is not let."""
    rules, mode = contract.rules()[side], 0
    for method, result in calls:
        if (mode, method) not in rules:
            return None
        mode = rules[(mode, method)][result]
    return mode


def slow_looser(one, other, most):
    """looser by the words of [9.5], as far as lists of at most so many calls tell."""
    for side in range(one.sides):
        for length in range(most + 1):
            for calls in product(all_calls(one.kind), repeat=length):
                modes = mode_behind(one, side, calls), mode_behind(other, side, calls)
                if None not in modes:
                    for method in one.kind.names():
                        if (modes[0], method) in one.rules()[side] and (modes[1], method) not in other.rules()[side]:
                            return (side, list(calls), method)
    return None


def slow_breach(contract, history):
    """first_breach, each call looked at with all earlier ones of its side."""
    for index, event in enumerate(history):
        if event[0] == "call":
            calls = [(method, result) for side, method, _, result
                     in calls_of(contract.kind, contract.sides, history[:index]) if side == event[1]]
            if mode_behind(contract, event[1], calls + [(event[2], 0)]) is None:
                return index
    return None


def slow_both(one, other, side):
    """The rules of a side by the words of [9.6], None if there are too many modes."""
    left, right = one.rules()[side], other.rules()[side]
    numbers, rules = {(0, 0): 0}, {}
    for here in numbers_in_turn(numbers):
        for method in one.kind.names():
            if (here[0], method) in left and (here[1], method) in right:
                behind = list(zip(left[(here[0], method)], right[(here[1], method)]))
                for modes in behind:
                    numbers.setdefault(modes, len(numbers))
                rules[(numbers[here], method)] = tuple(numbers[modes] for modes in behind)
    return rules if len(numbers) <= 16 else None


def numbers_in_turn(numbers):
    at = 0
    while at < len(numbers):
        yield list(numbers)[at]
        at += 1


class Contracts(unittest.TestCase):
    def test_by_hand(self):
        kind = counter(2)
        contract = Contract(kind, [{(0, "add"): [1, 0], (1, "get"): (1, 15)}, {}])
        self.assertIs(contract.kind, kind)
        self.assertEqual(contract.sides, 2)
        self.assertEqual(contract.methods(0, 0), ["add"])
        self.assertEqual(contract.methods(0, 1), ["get"])
        self.assertEqual([contract.methods(0, 15), contract.methods(1, 0)], [[], []])
        self.assertEqual(contract.after(0, 0, "add", 0), 1)
        self.assertEqual(contract.after(result=1, method="get", mode=1, side=0), 15)
        self.assertEqual(contract.methods(mode=0, side=0), ["add"])
        self.assertEqual(contract.rules(), [{(0, "add"): (1, 0), (1, "get"): (1, 15)}, {}])
        self.assertEqual(Contract(rules=({},), kind=kind).rules(), [{}])

    def test_tells_what_was_passed(self):
        rnd = random.Random(31)
        for _ in range(150):
            kind = rnd.choice(some_kinds() + [random_kind(rnd)])
            sides, modes = rnd.randint(1, 3), rnd.randint(1, 16)
            rules = random_rules(rnd, kind, sides, modes)
            rows = [{key: rnd.choice((list, tuple))(row) for key, row in side.items()} for side in rules]
            contract = Contract(kind, rnd.choice((list, tuple))(rows))
            self.assertEqual(contract.sides, sides)
            self.assertEqual(contract.rules(), [{key: tuple(row) for key, row in side.items()} for side in rules])
            for side, mode in product(range(sides), range(16)):
                let = sorted(name for at, name in rules[side] if at == mode)
                self.assertEqual(contract.methods(side, mode), let)
                for name in kind.names():
                    for result in range(kind.results(name)):
                        if name in let:
                            self.assertEqual(contract.after(side, mode, name, result),
                                             rules[side][(mode, name)][result])
                        else:
                            with self.assertRaises(NoMethod):
                                contract.after(side, mode, name, result)

    def test_changes_have_no_effect(self):
        rules = [{(0, "get"): [0, 1], (1, "set"): [0]}, {(0, "set"): [0]}]
        contract = Contract(cell(2), rules)
        same = Contract(cell(2), rules)
        rules[0][(0, "get")][0] = 7
        del rules[0][(1, "set")]
        rules[1][(0, "get")] = [0, 0]
        rules.append({})
        told = contract.rules()
        told[0][(0, "get")] = (3, 3)
        told[1].clear()
        told.pop()
        contract.methods(0, 0).append("set")
        self.assertEqual(contract, same)
        self.assertEqual(contract.rules(), [{(0, "get"): (0, 1), (1, "set"): (0,)}, {(0, "set"): (0,)}])
        self.assertEqual(contract.methods(0, 0), ["get"])
        self.assertIsNot(contract.rules(), contract.rules())
        self.assertIsInstance(contract.rules(), list)

    def test_equal(self):
        rules = [{(0, "get"): (0, 1), (1, "set"): (0,)}, {(0, "set"): (0,)}]
        contract = Contract(cell(2), rules)
        turned = [{key: list(side[key]) for key in reversed(list(side))} for side in rules]
        self.assertTrue(contract == Contract(cell(2), tuple(turned)))
        self.assertFalse(contract != Contract(cell(2), turned))
        others = [Contract(cell(2, 1), rules), Contract(cell(2), rules[::-1]), Contract(cell(2), rules[:1]),
                  Contract(cell(2), rules + [{}]), Contract(cell(2), [{**rules[0], (1, "set"): (1,)}, rules[1]]),
                  Contract(cell(2), [{(0, "get"): (0, 1)}, rules[1]]),
                  Contract(cell(2), [{**rules[0], (2, "set"): (0,)}, rules[1]])]
        for other in others + odd_values():
            self.assertFalse(contract == other)
            self.assertTrue(contract != other)
        self.assertEqual(free(cell(2), 2), only(cell(2), [["set", "get"]] * 2))

    def test_wrong_questions(self):
        contract = Contract(cell(2), [{(0, "get"): (0, 1)}, {(1, "set"): (0,)}])
        odd = odd_values()
        for side in not_below(2):
            for mode in (0, None, [0]):
                with self.assertRaises(NoSide) as caught:
                    contract.methods(side, mode)
                self.assertIs(caught.exception.side, side)
                with self.assertRaises(NoSide) as caught:
                    contract.after(side, mode, "set", None)
                self.assertIs(caught.exception.side, side)
        for mode in not_below(16):
            with self.assertRaises(NoMode) as caught:
                contract.methods(1, mode)
            self.assertIs(caught.exception.mode, mode)
            with self.assertRaises(NoMode) as caught:
                contract.after(0, mode, {}, {})
            self.assertIs(caught.exception.mode, mode)
        for method in odd:
            for side, mode in ((0, 0), (0, 1), (1, 1), (1, 15)):
                if not (isinstance(method, str) and (side, mode, method) in ((0, 0, "get"), (1, 1, "set"))):
                    with self.assertRaises(NoMethod) as caught:
                        contract.after(side, mode, method, None)
                    self.assertIs(caught.exception.method, method)
        for result in not_below(2):
            with self.assertRaises(NoResult) as caught:
                contract.after(0, 0, "get", result)
            self.assertIs(caught.exception.result, result)
        for result in not_below(1):
            with self.assertRaises(NoResult):
                contract.after(1, 1, "set", result)

    def check_bad(self, kind, rules, side):
        with self.assertRaises(BadContract) as caught:
            Contract(kind, rules)
        self.assertEqual(caught.exception.side, side)

    def test_no_rows_of_dicts(self):
        for rules in odd_values():
            if not (isinstance(rules, (list, tuple)) and rules and all(isinstance(each, dict) for each in rules)):
                self.check_bad(cell(2), rules, -1)
        for rules in ([], (), [{}] * 4, [{}, None], [{(20, "no"): 3}, []], [[((0, "get"), (0, 0))]], {0: {}}):
            self.check_bad(cell(2), rules, -1)
        for value in odd_values():
            if not isinstance(value, dict):
                self.check_bad(cell(2), [{}, value], -1)
                self.check_bad(cell(2), ({(0, "get"): 0}, {}, value), -1)

    def test_wrong_dicts(self):
        right = {(0, "get"): (0, 1), (15, "set"): [15]}
        Contract(cell(2), [right])
        wrong = [{key: value} for key, value in (
            ((0, "get"), (0,)), ((0, "get"), (0, 0, 0)), ((0, "get"), (0, 16)), ((0, "get"), (-1, 0)),
            ((0, "get"), (True, 0)), ((0, "get"), (0, False)), ((0, "get"), 0), ((0, "get"), "00"), ((0, "get"), {0: 0, 1: 0}),
            ((0, "get"), (0, None)), ((16, "get"), (0, 0)), ((-1, "get"), (0, 0)), ((True, "get"), (0, 0)),
            ((False, "get"), (0, 0)), ((None, "get"), (0, 0)), (("get", 0), (0, 0)), (("0", "get"), (0, 0)),
            ((0, "put"), (0, 0)), ((0, 0), (0, 0)), ((0, ""), (0, 0)), ((0, None), (0,)), ((0, ("get",)), (0, 0)),
            ((0,), (0, 0)), ((0, "get", 0), (0, 0)), ("get", (0, 0)), (0, (0, 0)), (None, (0, 0)), ((), (0, 0)),
            ("0g", (0, 0)), ((0, "set"), ()), ((0, "set"), (0, 0)), ((0, "set"), [[0]]))]
        for side in range(3):
            for rows in wrong:
                for worse in ({}, right, wrong[0]):
                    rules = [right] * side + [rows] + [worse] * (2 - side)
                    self.check_bad(cell(2), rules, side)
                    self.check_bad(cell(2), tuple(rules[:side + 1]), side)
                if not set(rows) & set(right):
                    self.check_bad(cell(2), [{**right, **rows}], 0)
        for value in odd_values():
            if not (isinstance(value, (list, tuple)) and len(value) == 2 and all(value[k] in (0, 1) for k in (0, 1))):
                self.check_bad(cell(2), [{(0, "get"): value}], 0)
            if not isinstance(value, (list, dict)):
                try:
                    rules = [{}, {value: (0, 0)}]
                except TypeError:
                    continue
                self.check_bad(cell(2), rules, 1)
        for mode in not_below(16):
            self.check_bad(cell(2), [{(0, "get"): [0, mode]}], 0)
            self.check_bad(cell(2), [{}, {(0, "set"): [mode]}], 1)


class FreeAndOnly(unittest.TestCase):
    def test_free(self):
        for kind in some_kinds():
            for sides in (1, 2, 3):
                contract = free(sides=sides, kind=kind)
                rules = {(0, name): (0,) * kind.results(name) for name in kind.names()}
                self.assertEqual(contract.rules(), [rules] * sides)
                self.assertIs(contract.kind, kind)
        for sides in not_between(1, 3):
            with self.assertRaises(BadSides):
                free(cell(2), sides)

    def test_only(self):
        kind = queue(2, 2)
        put, take = {(0, "put"): (0, 0)}, {(0, "take"): (0, 0, 0)}
        both_rules = {**put, **take}
        for rows, rules in (([["put"]], [put]), ((("take", "put"), []), [both_rules, {}]),
                            ([["put", "take", "put"], ("take",) * 9, ()], [both_rules, take, {}])):
            self.assertEqual(only(kind, rows).rules(), rules)
            self.assertEqual(only(rows=rows, kind=kind).sides, len(rules))

    def test_only_copies(self):
        rows = [["get"], ["set"]]
        contract = only(cell(2), rows)
        rows[0].append("set")
        rows.append([])
        self.assertEqual(contract, only(cell(2), (("get",), ("set",))))

    def check_bad(self, rows, side):
        with self.assertRaises(BadContract) as caught:
            only(cell(2), rows)
        self.assertEqual(caught.exception.side, side)

    def test_only_wrong(self):
        for value in odd_values():
            if not (isinstance(value, (list, tuple)) and value and all(isinstance(row, (list, tuple)) for row in value)):
                self.check_bad(value, -1)
            if not isinstance(value, (list, tuple)):
                self.check_bad([[], value], -1)
                self.check_bad([["no"], value], -1)
            if not (isinstance(value, str) and value in ("get", "set")):
                self.check_bad([["get", value]], 0)
                self.check_bad((["get"], ("set", value, "no"), [value]), 1)
                self.check_bad([[], [], [value]], 2)
        for rows in ([], (), [[]] * 4, "get", ["get"], {0: ["get"]}):
            self.check_bad(rows, -1)
        self.check_bad([["Get"]], 0)


class Breaches(unittest.TestCase):
    def test_by_hand(self):
        contract = Contract(cell(2), [{(0, "set"): (1,), (1, "get"): (0, 1)}, {(0, "get"): (0, 0)}])
        history = [("call", 0, "set", 1), ("call", 1, "get", 0), ("told", 0, 0), ("call", 0, "get", 0), ("told", 0, 1),
                   ("call", 0, "get", 0), ("told", 0, 0), ("call", 0, "get", 0)]
        self.assertEqual(first_breach(contract, history), 7)
        self.assertIsNone(first_breach(history=history[:7], contract=contract))
        self.assertEqual(first_breach(contract, [["call", 1, "set", 0]] + history[2:2]), 0)
        self.assertIsNone(first_breach(contract, ()))

    def test_by_chance(self):
        rnd = random.Random(32)
        kept = 0
        for _ in range(200):
            kind = rnd.choice(some_kinds() + [random_kind(rnd)])
            sides = rnd.randint(1, 3)
            contract = random_contract(rnd, kind, sides, rnd.randint(1, 16), let=rnd.choice((0.7, 0.9, 0.97)))
            history = random_history(rnd, kind, sides, 24)
            for length in range(len(history) + 1):
                told = first_breach(contract, history[:length])
                self.assertEqual(told, slow_breach(contract, history[:length]))
            kept += told is None
        self.assertGreater(kept, 30)
        self.assertLess(kept, 170)

    def test_bad_histories(self):
        contract = only(cell(2), [["get"], []])
        begin = [("call", 0, "get", 0), ("call", 1, "set", 1)]
        for event in odd_values() + [("told", 0, 2), ("call", 0, "get", 0), ("call", 2, "get", 0), ("told", 1, 1),
                                     ("told", 0, True), ("told", False, 0), ("call", 0, "get", False)]:
            with self.assertRaises(BadHistory) as caught:
                first_breach(contract, begin + [event])
            self.assertEqual(caught.exception.index, 2)
        for history in odd_values() + [begin * 31, begin[0]]:
            if history not in ([], ()):
                with self.assertRaises(BadHistory) as caught:
                    first_breach(contract, history)
                self.assertEqual(caught.exception.index, 0 if isinstance(history, (list, tuple)) and len(history) < 61
                                 else -1)
        sixty = [("call", 0, "get", 0), ("told", 0, 0)] * 30
        self.assertIsNone(first_breach(contract, sixty))
        with self.assertRaises(BadHistory):
            first_breach(contract, sixty + [("call", 1, "set", 0)])

    def test_what_is_passed_stays(self):
        history = [["call", 0, "get", 0], ["told", 0, 0]]
        contract = free(cell(2), 1)
        first_breach(contract, history)
        self.assertEqual(history, [["call", 0, "get", 0], ["told", 0, 0]])
        self.assertEqual(contract, free(cell(2), 1))


class Looser(unittest.TestCase):
    def test_by_hand(self):
        self.assertEqual(looser(free(flag(), 1), only(flag(), [["test"]])), (0, [], "clear"))
        self.assertIsNone(looser(only(flag(), [["test"]]), free(flag(), 1)))
        one = Contract(cell(2), [{}, {(0, "get"): (1, 2), (1, "get"): (0, 0), (2, "set"): (0,)}])
        other = Contract(cell(2), [{(0, "set"): (0,)}, {(0, "get"): (0, 0)}])
        self.assertEqual(looser(other=other, one=one), (1, [("get", 1)], "set"))
        self.assertEqual(looser(other, one), (0, [], "set"))

    def test_by_search(self):
        rnd = random.Random(33)
        lengths = []
        for _ in range(400):
            kind = rnd.choice((two(), flag(), cell(2)))
            sides, modes = rnd.randint(1, 2), rnd.randint(1, 3)
            one = random_contract(rnd, kind, sides, modes, let=rnd.choice((0.6, 0.9)))
            rules = one.rules()
            for side in rules:
                for key in sorted(side):
                    if rnd.random() < 0.3:
                        side[key] = tuple(rnd.randrange(modes) for _ in side[key])
                    if rnd.random() < 0.1:
                        del side[key]
            other = Contract(kind, rules)
            told = looser(one, other)
            slow = slow_looser(one, other, 4)
            lengths.append(-1 if told is None else len(told[1]))
            if told is None or len(told[1]) <= 4:
                self.assertEqual(told, slow)
            else:
                self.assertIsNone(slow)
        for length in (-1, 0, 1, 2):
            self.assertGreater(lengths.count(length), 5)

    def test_of_long_lists(self):
        for length in (3, 9, 16):
            one, other = lined(length, "ab"), lined(length, "a")
            self.assertEqual(looser(one, other), (0, [("a", 0)] * (length - 1), "b"))
            self.assertIsNone(looser(other, one))
        loops = [Contract(two(), [{(mode, "a"): ((mode + 1) % size,) * 2 for mode in range(size)}])
                 for size in (16, 15)]
        rules = loops[0].rules()
        rules[0][(15, "b")] = (0, 0)
        short = loops[1].rules()
        short[0].update({(mode, "b"): (mode, mode) for mode in range(14)})
        told = looser(Contract(two(), rules), Contract(two(), short))
        self.assertEqual(told, (0, [("a", 0)] * (15 + 16 * 14), "b"))

    def test_itself_and_free(self):
        rnd = random.Random(34)
        for _ in range(60):
            kind = random_kind(rnd)
            contract = random_contract(rnd, kind, rnd.randint(1, 3), rnd.randint(1, 16))
            self.assertIsNone(looser(contract, contract))
            self.assertIsNone(looser(contract, free(kind, contract.sides)))
            self.assertIsNone(looser(only(kind, [[]] * contract.sides), contract))

    def test_unlike(self):
        one = free(cell(2), 2)
        for other in (free(cell(2), 1), free(cell(2), 3), free(cell(2, 1), 2), free(cell(3), 2), free(flag(), 2)):
            for function in (looser, both):
                with self.assertRaises(Unlike):
                    function(one, other)
                with self.assertRaises(Unlike):
                    function(other=one, one=other)
        self.assertIsNone(looser(one, free(cell(2), 2)))


class Both(unittest.TestCase):
    def test_by_hand(self):
        one = Contract(two(), [{(0, "a"): (3, 0), (3, "b"): (0, 3)}])
        other = Contract(two(), [{(0, "b"): (1, 1), (0, "a"): (2, 0), (2, "b"): (0, 5)}])
        self.assertEqual(both(one, other).rules(), [{(0, "a"): (1, 0), (1, "b"): (0, 2)}])
        self.assertEqual(both(other=one, one=other).rules(), [{(0, "a"): (1, 0), (1, "b"): (0, 2)}])
        wide = Contract(two(), [{(0, "b"): (7, 8), (0, "a"): (9, 7), (9, "a"): (9, 0)}])
        self.assertEqual(both(wide, wide).rules(), [{(0, "a"): (1, 2), (0, "b"): (2, 3), (1, "a"): (1, 0)}])
        self.assertEqual(both(wide, free(two(), 1)), both(free(two(), 1), wide))

    def test_by_words(self):
        rnd = random.Random(35)
        many = 0
        for _ in range(300):
            kind = rnd.choice((two(), flag(), cell(2), lossy(), pair(flag(), cell(2))))
            sides = rnd.randint(1, 3)
            one = random_contract(rnd, kind, sides, rnd.randint(1, 6))
            other = random_contract(rnd, kind, sides, rnd.randint(1, 5))
            rules = [slow_both(one, other, side) for side in range(sides)]
            if None in rules:
                many += 1
                with self.assertRaises(TooMany) as caught:
                    both(one, other)
                self.assertEqual(caught.exception.limit, 16)
                continue
            joined = both(one, other)
            self.assertEqual(joined.rules(), rules)
            self.assertEqual(joined, Contract(kind, rules))
            self.assertIsNone(looser(joined, one))
            self.assertIsNone(looser(joined, other))
            if looser(one, other) is None:
                self.assertIsNone(looser(one, joined))
            history = random_history(rnd, kind, sides, 20)
            breaches = [first_breach(each, history) for each in (one, other)]
            told = [index for index in breaches if index is not None]
            self.assertEqual(first_breach(joined, history), min(told) if told else None)
        self.assertGreater(many, 10)
        self.assertLess(many, 200)

    def test_sixteen_modes(self):
        def loop(size):
            return {(mode, "a"): ((mode + 1) % size,) * 2 for mode in range(size)}
        loops = {size: Contract(two(), [{}, loop(size)]) for size in (2, 3, 4, 5, 8, 16)}
        self.assertEqual(both(loops[4], loops[3]).rules(), [{}, loop(12)])
        self.assertEqual(both(loops[16], loops[8]).rules(), [{}, loop(16)])
        line = Contract(two(), [{}, {(mode, "a"): (mode + 1,) * 2 for mode in range(15)}])
        self.assertEqual(both(line, loops[16]), line)
        for one, other in ((4, 5), (16, 3), (16, 5)):
            with self.assertRaises(TooMany) as caught:
                both(loops[one], loops[other])
            self.assertEqual(caught.exception.limit, 16)
        # Seventeen modes, the last one without calls.
        tail = Contract(two(), [{}, {**{(mode, "a"): ((mode + 1) % 4,) * 2 for mode in range(4)}, (3, "b"): (4, 4)}])
        with_b = Contract(two(), [{}, {**loop(4), (3, "b"): (5, 5)}])
        self.assertEqual(len(both(tail, with_b).rules()[1]), 5)
        long = Contract(two(), [{}, {**loop(16), (3, "b"): (5, 5)}])
        with self.assertRaises(TooMany):
            both(tail, long)

    def test_itself_and_free(self):
        rnd = random.Random(36)
        for _ in range(60):
            kind = random_kind(rnd)
            contract = random_contract(rnd, kind, rnd.randint(1, 3), rnd.randint(1, 16))
            for joined in (both(contract, contract), both(contract, free(kind, contract.sides)),
                           both(free(kind, contract.sides), contract)):
                self.assertIsNone(looser(joined, contract))
                self.assertIsNone(looser(contract, joined))


if __name__ == "__main__":
    unittest.main()
