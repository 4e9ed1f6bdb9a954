"""What houses show: [15.1] to [15.4]."""

import random
import unittest

from tests.helper import (
    bad_limits, changed_house, counting, drawn_houses, limits_told, locked, odd_values,
    random_history, slow_states, some_houses, stuck, weak_cell)
from towerup.contracts import Contract, free, looser, only
from towerup.errors import BadHistory, TooMany, Unlike
from towerup.houses import House, plain
from towerup.kinds import Kind
from towerup.programs import Side
from towerup.runs import Running, run
from towerup.shelf import cell, choose, counter, flag, swap
from towerup.shown import parted, run_of, shows, within
from towerup.steps import event_of, initial, moves, wrongs
from towerup.things import Atomic, Weak
from towerup.verdicts import breaking, sizes


def drawn_run(rnd, house, length):
    """A run without a wrong step."""
    running = Running(house)
    for _ in range(length):
        choices = [step for step in running.choices() if step[1] != "wrong"]
        if not choices:
            break
        running.step(rnd.choice(choices))
    return running.record()


def slow_run_of(house, history):
    """The first of the shortest runs, by a plain search over all pairs of a state and a number of events so far."""
    history = [tuple(event) for event in history]
    best = {(initial(house), 0): []}
    level = dict(best)
    while level:
        ends = [steps for (_, told), steps in level.items() if told == len(history)]
        if ends:
            return min(ends)
        further = {}
        for (state, told), steps in level.items():
            for step, behind in moves(house, state):
                event = event_of(step)
                if event is not None and history[told] != event:
                    continue
                pair = (behind, told + (event is not None))
                if pair not in best:
                    further[pair] = min(further.get(pair, steps + [step]), steps + [step])
        best.update(further)
        level = further
    return None


def silent(house, states):
    """The states to which steps without an event lead, these ones too."""
    found = set(states)
    todo = list(found)
    while todo:
        for step, behind in moves(house, todo.pop()):
            if event_of(step) is None and behind not in found:
                found.add(behind)
                todo.append(behind)
    return frozenset(found)


def behind_event(house, states, event):
    return silent(house, [behind for state in states for step, behind in moves(house, state)
                          if event_of(step) == event])


def events_at(house, states):
    return {event_of(step) for state in states for step, _ in moves(house, state)} - {None}


def slow_within(one, other):
    """The first shortest history by layers of events: for each history the states of both houses behind it."""
    layer = [([], silent(one, [initial(one)]), silent(other, [initial(other)]))]
    met = {layer[0][1:]}
    while layer:
        further = []
        for history, left, right in layer:
            for event in sorted(events_at(one, left)):
                row = (history + [event], behind_event(one, left, event), behind_event(other, right, event))
                if not row[2]:
                    further.append(row)
                elif row[1:] not in met:
                    met.add(row[1:])
                    further.append(row)
        ends = [row[0] for row in further if not row[2]]
        if ends:
            return min(ends)
        layer = further
    return None


def many_pairs(one, other):
    """How many pairs (state of one, set of states of other) come."""
    first = (initial(one), silent(other, [initial(other)]))
    met, todo = {first}, [first]
    while todo:
        state, others = todo.pop()
        for step, behind in moves(one, state) if others else []:
            event = event_of(step)
            pair = (behind, others if event is None else behind_event(other, others, event))
            if pair not in met:
                met.add(pair)
                todo.append(pair)
    return len(met)


def drawn_pairs(rnd, many):
    """Pairs of houses of one kind and of as many sides that have not too many pairs."""
    found = []
    base = drawn_houses(rnd, 25)
    while len(found) < many:
        one = rnd.choice(base)
        other = changed_house(rnd, one)
        if rnd.random() < 0.3:
            one = changed_house(rnd, one)
        if rnd.random() < 0.5:
            one, other = other, one
        try:
            for left, right in ((one, other), (other, one)):
                sizes(left, limit=300)
                within(left, right, limit=500)
        except TooMany:
            continue
        found.append((one, other))
    return found


class RunOf(unittest.TestCase):
    def check(self, house, history):
        told = run_of(house, history)
        self.assertEqual(told, slow_run_of(house, history))
        self.assertIs(shows(house, history), told is not None)
        if told is not None:
            self.assertIs(type(told), list)
            record = run(house, told)
            self.assertEqual(record.history, [tuple(event) for event in history])
            self.assertNotIn("wrong", [step[1] for step in told])
        return told is not None

    def test_drawn_runs(self):
        rnd = random.Random(91)
        for house in some_houses() + drawn_houses(rnd, 40):
            for _ in range(4):
                record = drawn_run(rnd, house, rnd.randint(0, 30))
                self.assertTrue(self.check(house, rnd.choice((list, tuple))(map(list, record.history))))

    def test_changed_histories(self):
        rnd = random.Random(92)
        found = {True: 0, False: 0}
        for house in some_houses() + drawn_houses(rnd, 60):
            for _ in range(6):
                history = drawn_run(rnd, house, 24).history
                draw = rnd.random()
                if draw < 0.4 and history:
                    history = list(history)
                    del history[rnd.randrange(len(history))]
                elif draw < 0.7:
                    side = rnd.randrange(len(house.sides))
                    history.insert(rnd.randint(0, len(history)), rnd.choice((
                        ("told", side, rnd.randrange(2)), ("call", side, rnd.choice(house.kind.names()), 0))))
                else:
                    history = random_history(rnd, house.kind, len(house.sides), rnd.randint(0, 8))
                try:
                    found[self.check(house, history)] += 1
                except BadHistory:
                    pass
        self.assertGreater(min(found.values()), 60)

    def test_by_hand(self):
        house = counting()
        self.assertEqual(run_of(house, []), [])
        self.assertEqual(run_of(history=[("call", 1, "add", 0)], house=house), [(1, "call", "add", 0)])
        # Both get the cell ahead of the sets; the run goes on behind the lot that this breaks.
        history = [("call", 0, "add", 0), ("call", 1, "add", 0), ("told", 0, 0), ("told", 1, 0), ("call", 1, "add", 0),
                   ("told", 1, 1)]
        self.assertEqual(run_of(house, history, limit=100), [
            (0, "call", "add", 0), (0, "do", "", 0), (1, "call", "add", 0), (1, "do", "", 0), (0, "do", "", 0),
            (0, "told", "", 0), (1, "do", "", 0), (1, "told", "", 0), (1, "call", "add", 0), (1, "do", "", 0),
            (1, "do", "", 0), (1, "told", "", 1)])
        self.assertIs(shows(house, history), True)
        self.assertIs(shows(limit=2000, history=history, house=locked()), False)

    def test_wrong_steps(self):
        # What is shown ahead of a wrong step is shown; nothing is shown by it or behind it.
        self.assertEqual(run_of(stuck(), [("call", 0, "go", 0)]), [(0, "call", "go", 0)])
        self.assertIsNone(run_of(stuck(), [("call", 0, "go", 0), ("told", 0, 0)]))
        dead = Kind(1, 0, {"no": (1, 1, [[[]]])})
        sides = [Side({}, {"test": [("call", "", "d", "no", 0)]}), Side({}, {"test": [("return", 1)]})]
        house = House(flag(), [Atomic("d", dead)], only(flag(), [["test"], ["test"]]), sides)
        history = [("call", 0, "test", 0), ("call", 1, "test", 0), ("told", 1, 1)]
        self.assertTrue(self.check(house, history))
        self.assertFalse(self.check(house, history + [("told", 0, 0)]))

    def test_limits(self):
        rnd = random.Random(93)
        for house in some_houses() + drawn_houses(rnd, 10):
            many = len(slow_states(house))
            history = drawn_run(rnd, house, 12).history
            for asked in ([], history):
                told = slow_run_of(house, asked)
                limits_told(self, lambda limit: run_of(house, asked, limit=limit), many, told)
                limits_told(self, lambda limit: shows(house, asked, limit=limit), many, told is not None)

    def test_wrong_histories(self):
        house = counting()
        for function in (run_of, shows):
            for value in odd_values():
                index = -1
                if isinstance(value, (list, tuple)):
                    index = 0 if len(value) > 0 else None
                for limit in (None, 1, 2000):
                    if index is not None:
                        self.assertEqual(self.fault(function, house, value, limit), index)
                    self.assertEqual(self.fault(function, house, [("call", 0, "add", 0), value], limit), 1)
            self.assertEqual(self.fault(function, house, [("call", 2, "add", 0)], 0), 0)
            self.assertEqual(self.fault(function, house, [("call", 0, "get", 0), ("told", 0, 2)], 0), 1)
            self.assertEqual(self.fault(function, house, [("call", 0, "add", 0), ("told", 0, 0)] * 31, 0), -1)
            bad_limits(self, lambda limit: function(house, [("call", 0, "add", 0)], limit=limit))
            with self.assertRaises(TypeError):
                function(house, [], 2000)
        # The history need not keep the contract.
        self.assertIsNone(run_of(house, [("call", 0, "get", 0)]))

    def fault(self, function, house, history, limit):
        with self.assertRaises(BadHistory) as caught:
            function(house, history, limit=limit)
        return caught.exception.index

    def test_told_lists_may_be_changed(self):
        house, history = counting(), [["call", 0, "add", 0], ("told", 0, 0)]
        told = run_of(house, history)
        told.clear()
        self.assertEqual(len(run_of(house, history)), 4)
        self.assertEqual(history, [["call", 0, "add", 0], ("told", 0, 0)])

    def test_long_histories(self):
        house = plain(cell(3), free(cell(3), 2))
        turn = [("call", 0, "set", 1), ("call", 1, "get", 0), ("told", 0, 0), ("told", 1, 1)]
        self.assertEqual(len(run_of(house, turn * 15)), 90)
        self.assertIsNone(run_of(house, turn * 14 + turn[:3] + [("told", 1, 2)]))


class Within(unittest.TestCase):
    def check(self, one, other):
        told = within(one, other, limit=4000)
        self.assertEqual(told, slow_within(one, other))
        if told is not None:
            self.assertIs(type(told), list)
            self.assertTrue(shows(one, told))
            self.assertFalse(shows(other, told))
        return told

    def test_some_houses(self):
        for house in some_houses():
            machine = plain(house.kind, house.contract)
            keeps = breaking(house) is None
            right = not any(wrongs(house, state) for state in slow_states(house))
            if right:
                self.assertEqual(self.check(house, machine) is None, keeps)
            else:
                self.check(house, machine)
            self.check(machine, house)
            if len(slow_states(house)) < 200:
                self.assertIsNone(self.check(house, house))
                self.assertIsNone(parted(house, house))

    def test_by_chance(self):
        rnd = random.Random(94)
        found = {None: 0, 0: 0, 1: 0}
        lengths = set()
        for one, other in drawn_pairs(rnd, 120):
            told = self.check(one, other)
            back = self.check(other, one)
            both = parted(one, other)
            if told is not None:
                self.assertEqual(both, (0, told))
            else:
                self.assertEqual(both, None if back is None else (1, back))
            found[both and both[0]] += 1
            lengths.add(len(told or back or []))
        self.assertGreater(min(found.values()), 10)
        self.assertGreater(max(lengths), 4)

    def test_one_to_three_sides(self):
        for sides in (1, 2, 3):
            # Side 0 sets, one other side gets, if there is one; the third side does nothing.
            contract = only(cell(2), [["set"], ["get"], []][:sides]) if sides > 1 else free(cell(2), 1)
            store, put = {"r": (2, 0)}, [("call", "", "w", "set", "arg")]
            get = [("call", "r", "w", "get", 0), ("return", "r")]
            programs = [Side(store, {"set": put, "get": get})] + [Side(store, {"get": get})] * (sides - 1)
            houses = [House(cell(2), [thing], contract, programs)
                      for thing in (Atomic("w", cell(2)), Weak("w", "regular", 2), Weak("w", "safe", 2))]
            machine = plain(cell(2), contract)
            told = [self.check(house, machine) for house in houses]
            self.assertEqual([each is None for each in told], [True] + [sides == 1] * 2)
            self.assertIsNone(self.check(houses[0], houses[1]))
            self.assertIsNone(self.check(houses[1], houses[2]))
            self.assertIsNone(parted(machine, houses[0]))
        machine = plain(flag(), only(flag(), [["test"]] * 3))
        back = machine.with_side(2, Side({}, {"test": [("return", 0)]}))
        self.assertEqual(self.check(back, machine), [
            ("call", 0, "test", 0), ("call", 2, "test", 0), ("told", 0, 0), ("told", 2, 0)])
        self.assertEqual(self.check(machine, back), [
            ("call", 0, "test", 0), ("call", 2, "test", 0), ("told", 0, 1)])

    def test_contracts_of_several_modes(self):
        one = Contract(flag(), [{(0, "test"): (0, 1), (1, "clear"): (0,)}] * 2)
        other = Contract(flag(), [{(0, "test"): (0, 0)}, {(0, "test"): (0, 1), (1, "clear"): (0,)}])
        self.assertIsNone(self.check(plain(flag(), one), plain(flag(), free(flag(), 2))))
        self.assertEqual(self.check(plain(flag(), free(flag(), 2)), plain(flag(), one)), [("call", 0, "clear", 0)])
        # The other side has set the flag, but was not told so.
        self.assertEqual(self.check(plain(flag(), one), plain(flag(), other)), [
            ("call", 0, "test", 0), ("call", 1, "test", 0), ("told", 0, 1), ("call", 0, "clear", 0)])

    def test_by_hand(self):
        house = counting()
        machine = plain(counter(2), only(counter(2), [["add"], ["add"]]))
        told = [("call", 0, "add", 0), ("call", 1, "add", 0), ("told", 0, 0), ("told", 1, 0)]
        self.assertEqual(within(house, machine), told)
        self.assertEqual(within(limit=2000, other=machine, one=house), told)
        self.assertEqual(parted(house, machine), (0, told))
        self.assertIsNone(within(machine, house))
        self.assertEqual(parted(other=house, one=machine, limit=2000), (1, told))
        self.assertIsNone(parted(locked(), machine))

    def test_pairs_with_an_empty_set(self):
        # One side tells 0 or 1, the other house 0 alone: the pairs are two ahead of the told step, and two behind it.
        kind = Kind(1, 0, {"a": (1, 2, [[[(0, 0), (1, 0)]]])})
        one = plain(kind, free(kind, 1))
        other = House(kind, [], free(kind, 1), [Side({}, {"a": [("return", 0)]})])
        self.assertEqual(self.check(one, other), [("call", 0, "a", 0), ("told", 0, 1)])
        # At rest, ahead of the thing, telling 0 and telling 1; r is kept, so that rest comes in two states.
        self.assertEqual(len(slow_states(one)), 6)
        self.assertEqual(many_pairs(one, other), 5)
        limits_told(self, lambda limit: within(one, other, limit=limit), 6, [("call", 0, "a", 0), ("told", 0, 1)])
        # Nothing comes behind a pair with an empty set, but the pair itself counts.
        none = House(kind, [], Contract(kind, [{}]), [Side({}, {"a": []})])
        self.assertEqual(many_pairs(one, none), 2)
        many = House(kind, [], free(kind, 1), [Side({"x": (4, 0)}, {"a": [("set", "x", ("plus", "x", 1))]})])
        self.assertEqual((len(slow_states(many)), many_pairs(many, none)), (8, 2))

    def test_limits(self):
        rnd = random.Random(95)
        words = {"one": 0, "other": 0, "pairs": 0}
        pairs = drawn_pairs(rnd, 60) + [(counting(), plain(counter(2), counting().contract)), (locked(), counting())]
        for one, other in pairs:
            counts = [len(slow_states(one)), len(slow_states(other)), many_pairs(one, other)]
            many = max(counts)
            words[("one", "other", "pairs")[counts.index(many)]] += 1
            limits_told(self, lambda limit: within(one, other, limit=limit), many, slow_within(one, other))
            back = max(counts[:2] + [many_pairs(other, one)])
            if parted(one, other, limit=4000) is None or within(one, other) is None:
                limits_told(self, lambda limit: parted(one, other, limit=limit), max(many, back), parted(one, other))
            else:
                limits_told(self, lambda limit: parted(one, other, limit=limit), many, parted(one, other))
        self.assertGreater(min(words.values()), 3)

    def test_unlike(self):
        one = plain(cell(2), free(cell(2), 1))
        for other in (plain(cell(2, 1), free(cell(2, 1), 1)), plain(cell(2), free(cell(2), 2)),
                      plain(flag(), free(flag(), 1)), plain(cell(3), free(cell(3), 3))):
            for function in (within, parted):
                for limit in (1, 0, None, 2000):
                    with self.assertRaises(Unlike):
                        function(one, other, limit=limit)
                    with self.assertRaises(Unlike):
                        function(other, one, limit=limit)

    def test_bad_limits(self):
        one = counting()
        for function in (within, parted):
            bad_limits(self, lambda limit: function(one, locked(), limit=limit))
            with self.assertRaises(TypeError):
                function(one, one, 2000)

    def test_told_lists_may_be_changed(self):
        one = counting()
        machine = plain(one.kind, one.contract)
        for _ in range(2):
            told = within(one, machine)
            self.assertEqual(len(told), 4)
            told.clear()
            parted(machine, one)[1].clear()


class Facts(unittest.TestCase):
    def test_within_plain(self):
        rnd = random.Random(96)
        found = {True: 0, False: 0}
        for house in some_houses() + drawn_houses(rnd, 150):
            if any(wrongs(house, state) for state in slow_states(house)):
                continue
            try:
                told = within(house, plain(house.kind, house.contract), limit=4000)
            except TooMany:
                continue
            self.assertEqual(told is None, breaking(house) is None)
            found[told is None] += 1
        self.assertGreater(min(found.values()), 20)

    def test_stricter_contracts(self):
        rnd = random.Random(97)
        stricter = 0
        for house in some_houses() + drawn_houses(rnd, 80):
            rules = [{key: modes for key, modes in rows.items() if rnd.random() < 0.7}
                     for rows in house.contract.rules()]
            contract = Contract(house.kind, rules)
            self.assertIsNone(looser(contract, house.contract))
            less = house.with_contract(contract)
            self.assertIsNone(within(less, house, limit=4000))
            if breaking(house) is None:
                self.assertIsNone(breaking(less))
                stricter += less != house
        self.assertGreater(stricter, 10)

    def test_each_drawn_run_is_shown(self):
        rnd = random.Random(98)
        for one, other in drawn_pairs(rnd, 40):
            told = within(one, other)
            for _ in range(5):
                history = drawn_run(rnd, one, 16).history
                if told is None:
                    self.assertTrue(shows(other, history))
                elif not shows(other, history):
                    self.assertLessEqual((len(told), told), (len(history), history))


class Great(unittest.TestCase):
    def test_many_states(self):
        # Answers that may be anything, kept in variables: many states behind each history.
        kind = Kind(1, 0, {"a": (1, 4, [[[(result, 0) for result in range(4)]]])})
        block = [("call", name, "d", "a", 0) for name in "wxyz"] + [("return", "z")]
        side = Side({name: (4, 0) for name in "wxyz"}, {"a": block})
        one = House(kind, [Atomic("d", kind)], only(kind, [["a"]]), [side])
        machine = plain(kind, free(kind, 1))
        self.assertEqual(len(slow_states(one)), 1536)
        self.assertIsNone(within(one, one, limit=4000))
        self.assertIsNone(parted(one, machine, limit=4000))
        turn = [("call", 0, "a", 0), ("told", 0, 2)]
        self.assertEqual(len(run_of(one, turn * 30)), 180)
        self.assertIsNone(run_of(one.with_side(0, side.with_block("a", block[:4])), turn))

    def test_the_usual_limit(self):
        house = weak_cell("regular", 3)
        self.assertEqual(many_pairs(house, house), 2706)
        for function in (within, parted):
            self.assertIsNone(function(house, house, limit=2706))
            for limits in ({}, {"limit": 2705}, {"limit": 2000}):
                with self.assertRaises(TooMany) as caught:
                    function(house, house, **limits)
                self.assertEqual(caught.exception.limit, limits.get("limit", 2000))
        for house in (plain(swap(4), free(swap(4), 2)), plain(choose(4), free(choose(4), 3))):
            for function in (run_of, shows):
                with self.assertRaises(TooMany) as caught:
                    function(house, [])
                self.assertEqual(caught.exception.limit, 2000)
        house = plain(counter(4), free(counter(4), 2))
        self.assertEqual(len(slow_states(house)), 1024)
        self.assertEqual(run_of(house, []), [])
        with self.assertRaises(TooMany):
            within(house, house, limit=4000)


if __name__ == "__main__":
    unittest.main()
