"""What the whole program promises: [2.3], [2.7], and that its parts agree with one another."""

import copy
import random
import unittest

from tests.helper import counting, drawn_houses, locked, nested, some_houses, weak_cell
from towerup import (
    contracts, diaries, histories, houses, kinds, live, lots, machines, orders, programs, repairs, runs, shelf, shown,
    steps, texts, things, towers, verdicts, waits)
from towerup.errors import NoOrder, TooMany, TowerError
from towerup.shelf import cell, counter, flag

HISTORY = [["call", 0, "get", 0], ("told", 0, 0), ["call", 1, "set", 1]]
DIARY = [["call", 0, "get", 0], ["told", 0, None], ("call", 1, "set", 1)]
STEPS = [[0, "call", "add", 0], (0, "do", "", 0)]
PLAIN = houses.plain(cell(2), contracts.free(cell(2), 1))


def calls():
    """(function, its arguments by their names) for each function, class and method of the interface."""
    kind, contract, house = cell(2), contracts.free(cell(2), 2), counting()
    side, lasso = locked().sides[0], list(waits.endless(locked(), 0))
    running, alive = runs.Running(house), live.Live(house)
    own = {"kind": kind, "sides": 2, "history": HISTORY}
    limit = {"limit": 4000}
    rows = [["x", PLAIN]]
    first = lots.first_lot(kind, 2)
    return [
        (kinds.Kind, {"states": 1, "start": 0, "methods": {"a": [1, 1, [[[[0, 0]]]]]}}),
        (kind.names, {}), (kind.arguments, {"method": "get"}), (kind.results, {"method": "get"}),
        (kind.answers, {"state": 0, "method": "get", "argument": 0}), (kind.with_start, {"start": 1}),
        (kinds.is_total, {"kind": kind}), (kinds.is_single, {"kind": kind}),
        (shelf.cell, {"size": 2, "start": 1}), (shelf.counter, {"size": 2}), (shelf.flag, {}), (shelf.swap, {"size": 2}),
        (shelf.choose, {"size": 2}), (shelf.queue, {"size": 2, "room": 1}),
        (shelf.pair, {"one": cell(2), "other": flag()}),
        (shelf.with_deal, {"kind": kind, "name": "deal", "calls": [["get", 0], ("set", 1)]}),
        (machines.reached, {"kind": kind, "calls": [["get", 0, 0]]}),
        (machines.alike, {"one": cell(2), "other": cell(2, 1)}),
        (histories.under_way, own), (histories.calls_of, own), (histories.quiet, own),
        (lots.first_lot, {"kind": kind, "sides": 2}),
        (lots.lot_behind, {"kind": kind, "sides": 2, "lot": first, "event": ["call", 0, "get", 0]}),
        (lots.lot, own), (lots.fault, own), (lots.tellable, {**own, "side": 1}),
        (lots.states_at, {**own, "history": HISTORY[:2]}),
        (orders.order_count, own), (orders.first_order, own), (orders.sure_pairs, own),
        (orders.order_fault, {**own, "order": (0, 1)}),
        (contracts.Contract, {"kind": kind, "rules": [{(0, "get"): [0, 1]}]}),
        (contract.methods, {"side": 0, "mode": 0}), (contract.rules, {}),
        (contract.after, {"side": 0, "mode": 0, "method": "get", "result": 1}),
        (contracts.free, {"kind": kind, "sides": 2}), (contracts.only, {"kind": kind, "rows": [["get"], []]}),
        (contracts.first_breach, {"contract": contract, "history": HISTORY}),
        (contracts.looser, {"one": contract, "other": contracts.only(kind, [["get"], []])}),
        (contracts.both, {"one": contract, "other": contract}),
        (things.Atomic, {"name": "c", "kind": kind}),
        (things.Weak, {"name": "w", "word": "safe", "size": 2, "start": 1, "owner": 0}),
        (programs.Side, {"store": {"x": [2, 0]}, "methods": {"get": [["if", "x", 0, [["return", "x"]], []]]}}),
        (side.names, {}), (side.block, {"method": "add"}),
        (lambda method: list(side.walk(method=method)), {"method": "add"}),
        (side.with_block, {"method": "add", "block": [["return", ["plus", "x", 1]]]}),
        (side.without, {"method": "add", "place": 0}),
        (houses.House, {"kind": house.kind, "things": list(house.things), "contract": house.contract,
                        "sides": list(house.sides)}),
        (house.thing, {"name": "c"}), (house.with_things, {"things": [things.Atomic("c", cell(2))]}),
        (house.with_contract, {"contract": house.contract}),
        (house.with_side, {"side": 0, "program": house.sides[1]}),
        (houses.plain, {"kind": kind, "contract": contract}),
        (steps.initial, {"house": house}), (steps.moves, {"house": house, "state": steps.initial(house)}),
        (steps.wrongs, {"house": house, "state": steps.initial(house)}), (steps.event_of, {"step": STEPS[1]}),
        (runs.run, {"house": house, "steps": STEPS}), (runs.Running, {"house": house}), (running.choices, {}),
        (running.can, {"step": STEPS[0]}), (runs.Running(house).step, {"step": STEPS[0]}), (running.record, {}),
        (lambda numbers: list(runs.Running(house).wander(numbers=numbers)), {"numbers": [1, 2]}),
        (verdicts.breaking, {"house": house, **limit}), (verdicts.broken_at, {"house": house, "steps": STEPS}),
        (verdicts.standings, {"house": locked(), **limit}), (verdicts.closed_fault, {"house": house, "rows": [[0]]}),
        (verdicts.sizes, {"house": house, **limit}),
        (shown.run_of, {"house": PLAIN, "history": HISTORY[:2], **limit}),
        (shown.shows, {"house": PLAIN, "history": HISTORY[:2], **limit}),
        (shown.within, {"one": PLAIN, "other": PLAIN, **limit}), (shown.parted, {"one": PLAIN, "other": PLAIN, **limit}),
        (towers.composed, {"outer": PLAIN, "name": "x", "inner": PLAIN, **limit}),
        (towers.stacked, {"outer": PLAIN, "rows": rows, **limit}),
        (towers.layers, {"outer": PLAIN, "rows": rows, **limit}),
        (towers.tower_breaking, {"outer": PLAIN, "rows": rows, **limit}),
        (waits.longest, {"house": house, "side": 1, **limit}), (waits.alone, {"house": house, "side": 1, **limit}),
        (waits.endless, {"house": locked(), "side": 1, **limit}), (waits.stalled, {"house": locked(), **limit}),
        (waits.lasso_fault, {"house": locked(), "side": 0, "lasso": lasso}),
        (repairs.right_choices, {"house": weak_cell("safe"), "options": {"w": [things.Weak("w", "safe", 2)]}, **limit}),
        (repairs.least_choices, {"house": weak_cell("safe"), "options": {"w": [things.Weak("w", "safe", 2)]}, **limit}),
        (repairs.spare_places, {"house": PLAIN, **limit}), (repairs.lets, {"house": house, **limit}),
        (diaries.fillings, {"kind": kind, "sides": 2, "diary": DIARY}),
        (diaries.filling_count, {"kind": kind, "sides": 2, "diary": DIARY}),
        (diaries.sure_results, {"kind": kind, "sides": 2, "diary": DIARY}),
        (diaries.first_fault, {"kind": kind, "sides": 2, "diary": DIARY}),
        (live.Live, {"house": house}), (live.Live(house).step, {"step": STEPS[0]}), (alive.lot, {}), (alive.events, {}),
        (alive.rehearsal, {}),
        (texts.kind_text, {"kind": kind}), (texts.read_kind, {"text": texts.kind_text(kind)}),
        (texts.history_text, own), (texts.read_history, {"kind": kind, "sides": 2, "text": "call 0 get 0"}),
    ]


class Calls(unittest.TestCase):
    def test_arguments_by_their_names_in_any_order(self):
        for (function, named), (other, _) in zip(calls(), calls()):
            backward = dict(reversed(list(named.items())))
            told, again = function(**named), other(**backward)
            if isinstance(told, (runs.Record, runs.Running, live.Live)):
                self.assertEqual(vars(told).keys(), vars(again).keys())
            else:
                self.assertEqual(told, again)

    def test_no_argument_is_changed(self):
        for function, named in calls():
            before = copy.deepcopy(named)
            function(**named)
            for name, value in named.items():
                if isinstance(value, (list, tuple, dict)):
                    self.assertEqual(value, before[name], (function, name))

    def test_each_list_and_dict_is_new(self):
        for function, named in calls():
            if getattr(function, "__name__", "") == "step":
                continue
            told = function(**named)
            if not isinstance(told, (list, dict)):
                continue
            kept = copy.deepcopy(told)
            again = function(**named)
            self.assertIsNot(told, again, function)
            told.clear()
            self.assertEqual(function(**named), kept, function)

    def test_values_nested_20_deep(self):
        # In the place of each argument that may be any value; TowerErrors alone are raised.
        fixed = {"kind", "contract", "house", "inner", "one", "other", "state", "outer", "lot", "program", "limit"}
        deep = nested(20)
        for value in (deep, [deep], (deep,), {"get": deep}, [[deep]], [(0, deep)], {"w": [deep]}):
            for function, named in calls():
                for name in set(named) - fixed:
                    told = {**named, name: value}
                    if function in (towers.stacked, towers.layers, towers.tower_breaking, steps.event_of):
                        continue
                    try:
                        function(**told)
                    except TowerError:
                        pass


class Agreement(unittest.TestCase):
    def test_runs_lives_histories_and_texts(self):
        rnd = random.Random(161)
        faults = 0
        for house in some_houses() + drawn_houses(rnd, 60):
            kind, sides = house.kind, len(house.sides)
            running, alive = runs.Running(house), live.Live(house)
            for _ in range(rnd.randint(0, 24)):
                choices = [step for step in running.choices() if step[1] != "wrong"]
                if not choices:
                    break
                step = rnd.choice(choices)
                self.assertEqual(running.step(step), alive.step(step))
            record = running.record()
            self.assertEqual(record.history, alive.events())
            self.assertEqual((record.states[-1], len(record.steps)), (alive.state, len(alive)))
            history = record.history
            text = texts.history_text(kind, sides, history)
            self.assertEqual(texts.read_history(kind, sides, text), history)
            self.assertEqual(alive.lot(), lots.lot(kind, sides, history))
            fault = lots.fault(kind, sides, history)
            faults += fault is not None
            self.assertEqual(alive.broken, fault)
            self.assertEqual(diaries.first_fault(kind, sides, history), fault)
            self.assertEqual(diaries.fillings(kind, sides, history), [()] if fault is None else [])
            self.assertTrue(shown.shows(house, history, limit=4000))
            self.assertIsNone(contracts.first_breach(house.contract, history))
            self.check_calls(kind, sides, history, fault)
            self.check_sides(house, alive, history)
        self.assertGreater(faults, 5)

    def check_calls(self, kind, sides, history, fault):
        found = histories.calls_of(kind, sides, history)
        if fault is None:
            self.assertEqual(diaries.sure_results(kind, sides, history), [call[3] for call in found])
        else:
            self.assertRaises(NoOrder, diaries.sure_results, kind, sides, history)
        if len(found) <= 7:
            order = orders.first_order(kind, sides, history)
            self.assertEqual(order is None, fault is not None)
            if order is not None:
                self.assertIsNone(orders.order_fault(kind, sides, history, order))

    def check_sides(self, house, alive, history):
        kind, sides = house.kind, len(house.sides)
        for side, call in enumerate(histories.under_way(kind, sides, history)):
            self.assertEqual(call is None, alive.state[0][side][1] == 0)
            if call is not None:
                self.assertEqual(alive.asked(side), lots.tellable(kind, sides, history, side))
                # A diary that ends with an unknown result tells what may be told.
                diary = history + [("told", side, None)]
                if len(diary) <= 60:
                    told = [results[-1] for results in diaries.fillings(kind, sides, diary)]
                    self.assertEqual(told, alive.asked(side))

    def test_first_shortest_runs(self):
        for house in some_houses():
            steps_told = verdicts.breaking(house)
            if steps_told is None or steps_told[-1][1] == "wrong":
                continue
            history = runs.run(house, steps_told).history
            self.assertEqual(verdicts.broken_at(house, steps_told), ("told", lots.fault(
                house.kind, len(house.sides), history)))
            self.assertLessEqual(len(shown.run_of(house, history)), len(steps_told))
            alive = live.Live(house)
            alive += steps_told
            self.assertEqual(alive.broken, len(history) - 1)

    def test_kinds_of_houses_as_texts(self):
        for house in some_houses():
            kind = texts.read_kind(texts.kind_text(house.kind))
            self.assertEqual(kind, house.kind)
            again = houses.House(kind, house.things, contracts.Contract(kind, house.contract.rules()), house.sides)
            self.assertEqual(again, house)

    def test_many_states_are_counted_alike(self):
        house = houses.plain(counter(4), contracts.free(counter(4), 2))
        counted = verdicts.sizes(house, limit=4000)[0]
        for function in (lambda limit: waits.longest(house, 0, limit=limit),
                         lambda limit: shown.shows(house, [], limit=limit),
                         lambda limit: waits.stalled(house, limit=limit)):
            function(counted)
            self.assertRaises(TooMany, function, counted - 1)


if __name__ == "__main__":
    unittest.main()
