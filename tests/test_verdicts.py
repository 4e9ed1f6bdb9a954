"""Verdicts: [14.1] to [14.4]."""

import random
import unittest

from tests.helper import (
    SlowHouse, counting, drawn_houses, limits_told, locked, not_between, odd_values, slow_search, slow_states,
    some_houses, stuck, weak_cell)
from towerup.contracts import free, only
from towerup.errors import BadLimit, BadStep, Broken, TooMany
from towerup.houses import House, plain
from towerup.kinds import Kind
from towerup.lots import first_lot, lot, lot_behind
from towerup.programs import Side
from towerup.runs import run
from towerup.shelf import cell, counter, flag
from towerup.steps import event_of, initial, moves, wrongs
from towerup.things import Atomic
from towerup.verdicts import breaking, broken_at, closed_fault, sizes, standings


def breaks_at(house, steps):
    """Whether the last step of a run breaks it, and no step ahead of it does; None if one ahead does."""
    events, broken = [], []
    for at, step in enumerate(steps):
        if event_of(step):
            events.append(event_of(step))
        if step[1] == "wrong" or step[1] == "told" and lot(house.kind, len(house.sides), events) == ():
            broken.append(at)
    if not broken:
        return False
    return True if broken == [len(steps) - 1] else None


def slow_closed(house, rows):
    """closed_fault by the walk that [14.3] tells."""
    if not isinstance(rows, (list, tuple)):
        return ("row",)
    first = (initial(house), first_lot(house.kind, len(house.sides)))
    if not any(first == row for row in rows):
        return ("begin",)
    walk, at = [first], 0
    while at < len(walk):
        state, before = walk[at]
        for step, behind in moves(house, state):
            event = event_of(step)
            after = lot_behind(house.kind, len(house.sides), before, event) if event else before
            if after == ():
                return ("breaks", walk[at], step)
            if not any((behind, after) == row for row in rows):
                return ("lacks", (behind, after))
            if (behind, after) not in walk:
                walk.append((behind, after))
        for side in wrongs(house, state):
            return ("breaks", walk[at], (side, "wrong", "", -1))
        at += 1
    return None


class Breaking(unittest.TestCase):
    def check(self, house):
        """True if the house keeps its kind."""
        found, broken = slow_search(house)
        told = breaking(house)
        self.assertEqual(told, broken)
        many = len(found)
        states = len(slow_states(house))
        self.assertEqual(sizes(house), (states, many))
        limits_told(self, lambda limit: breaking(house, limit=limit), many, broken)
        limits_told(self, lambda limit: sizes(limit=limit, house=house), max(states, many), (states, many))
        if broken is None:
            self.assertEqual(standings(house), found)
            limits_told(self, lambda limit: standings(house, limit=limit), many, found)
            return True
        self.assertIs(type(told), list)
        self.assertTrue(all(type(step) is tuple for step in told))
        self.assertEqual(breaks_at(house, told), True)
        with self.assertRaises(Broken):
            standings(house)
        with self.assertRaises(Broken):
            standings(house, limit=many)
        if many > 1:
            with self.assertRaises(TooMany):
                standings(house, limit=many - 1)
        return False

    def test_some_houses(self):
        kept = [self.check(house) for house in some_houses()]
        self.assertEqual(kept, [False, True, False, True, True, False, False, False, False, False, False, True, True,
                                False, False, True, True, False, True, True, False])

    def test_by_chance(self):
        rnd = random.Random(81)
        kept = [self.check(house) for house in drawn_houses(rnd, 150)]
        self.assertGreater(kept.count(True), 40)
        self.assertGreater(kept.count(False), 40)

    def test_by_hand(self):
        self.assertEqual(breaking(house=counting()), [
            (0, "call", "add", 0), (0, "do", "", 0), (1, "call", "add", 0), (1, "do", "", 0),
            (0, "do", "", 0), (0, "told", "", 0), (1, "do", "", 0), (1, "told", "", 0)])
        self.assertEqual(breaking(stuck()), [(0, "call", "go", 0), (0, "wrong", "", -1)])
        self.assertIsNone(breaking(locked(), limit=4000))

    def test_no_shorter_run_breaks(self):
        for house in (counting(), weak_cell("regular"), weak_cell("safe", 2, 2), stuck(), counting(2, 3)):
            told = breaking(house)
            level = [[]]
            for length in range(len(told) + 1):
                self.assertEqual([steps for steps in level if breaks_at(house, steps)],
                                 [] if length < len(told) else [steps for steps in level if breaks_at(house, steps)])
                if length == len(told):
                    self.assertEqual(min(steps for steps in level if breaks_at(house, steps)), told)
                    break
                level = [steps + [step] for steps in level for step in self.choices(house, steps)]

    def choices(self, house, steps):
        return SlowHouse(house, steps).choices() if not steps or steps[-1][1] != "wrong" else []

    def test_several_steps_that_break(self):
        # Behind one run a told step and a wrong one break, and steps of both sides.
        kind = Kind(1, 0, {"a": (1, 2, [[[(0, 0)]]])})
        dead = Kind(1, 0, {"no": (1, 1, [[[]]])})
        tell = Side({}, {"a": [("return", 1)]})
        fail = Side({}, {"a": [("call", "", "d", "no", 0)]})
        for sides, last in (([tell, fail], (0, "told", "", 1)), ([fail, tell], (0, "wrong", "", -1)),
                            ([fail, fail], (0, "wrong", "", -1))):
            house = House(kind, [Atomic("d", dead)], free(kind, 2), sides)
            self.assertEqual(breaking(house), [(0, "call", "a", 0), last])
            self.check(house)

    def test_broken_ahead_of_the_limit(self):
        house = counting(2, 4)
        many = sizes(house, limit=4000)[1]
        self.assertGreater(many, 1000)
        self.assertEqual(len(breaking(house, limit=many)), 8)
        with self.assertRaises(TooMany):
            breaking(house, limit=many - 1)

    def test_bad_limits(self):
        house = counting()
        for limit in not_between(1, 4000):
            for function in (breaking, standings, sizes):
                with self.assertRaises(BadLimit):
                    function(house, limit=limit)
        for function in (breaking, standings, sizes):
            with self.assertRaises(TypeError):
                function(house, 2000)
            with self.assertRaises(TooMany):
                function(plain(cell(4), free(cell(4), 3)))

    def test_the_usual_limit(self):
        house = plain(counter(4), free(counter(4), 2))
        self.assertEqual(sizes(house, limit=4000), (1024, 2268))
        for function in (breaking, standings, sizes):
            with self.assertRaises(TooMany) as caught:
                function(house)
            self.assertEqual(caught.exception.limit, 2000)
            self.assertIsNotNone([function(house, limit=2268)])

    def test_sizes_behind_broken_lots(self):
        kind = Kind(2, 0, {"a": (1, 2, [[[(0, 1)]], [[(0, 0)]]])})
        side = Side({"x": (4, 0)}, {"a": [("set", "x", ("plus", "x", 1)), ("return", 1)]})
        house = House(kind, [], free(kind, 1), [side])
        self.assertEqual(sizes(house), (8, 2))
        self.assertEqual(breaking(house, limit=2), [(0, "call", "a", 0), (0, "told", "", 1)])
        for limit in (1, 2, 7):
            with self.assertRaises(TooMany):
                sizes(house, limit=limit)
        self.assertEqual(sizes(house, limit=8), (8, 2))
        self.assertEqual(sizes(stuck()), (2, 2))

    def test_great_houses(self):
        rows = [[[(result, (state + argument + result + far) % 8) for result in range(4) for far in (0, 3)]
                 for argument in range(4)] for state in range(8)]
        kind = Kind(8, 0, {name: (4, 4, rows) for name in "abcd"})
        for sides in (1, 2, 3):
            house = plain(kind, free(kind, sides))
            for function in (breaking, standings, sizes):
                with self.assertRaises(TooMany):
                    function(house, limit=4000)
        house = plain(counter(4), free(counter(4), 2))
        found = standings(house, limit=4000)
        self.assertEqual(len(found), 2268)
        self.assertIsNone(closed_fault(house, found[::-1]))


class BrokenAt(unittest.TestCase):
    def test_by_chance(self):
        rnd = random.Random(82)
        found = {}
        for house in some_houses() + drawn_houses(rnd, 60):
            for _ in range(6):
                steps = []
                for _ in range(24):
                    choices = SlowHouse(house, steps).choices()
                    if not choices:
                        break
                    steps.append(rnd.choice(choices))
                    if steps[-1][1] == "wrong" or breaks_at(house, steps):
                        break
                word = self.check(rnd, house, steps)
                found[word] = found.get(word, 0) + 1
        for word in (None, "wrong", "told"):
            self.assertGreater(found[word], 25)

    def check(self, rnd, house, steps):
        for many in range(len(steps)):
            self.assertIsNone(broken_at(house, steps[:many]))
        told = broken_at(steps=rnd.choice((list, tuple))(map(list, steps)), house=house)
        if not breaks_at(house, steps):
            self.assertIsNone(told)
            return None
        if steps[-1][1] == "wrong":
            self.assertEqual(told, ("wrong", steps[-1][0]))
            behind = [steps[-1], (0, "call", "get", 0), None]
        else:
            self.assertEqual(told, ("told", len([step for step in steps if event_of(step)]) - 1))
            behind = SlowHouse(house, steps).choices()
            for step in behind:
                further = SlowHouse(house, steps + [step]).choices() if step[1] != "wrong" else []
                for more in [[]] + [[each] for each in further]:
                    self.assertEqual(self.fault(house, steps + [step] + more), len(steps))
                # The whole row is looked at first.
                self.assertEqual(self.fault(house, steps + [step, None]), len(steps) + 1)
            behind = [None, (9, "call", "get", 0)]
        for step in behind:
            self.assertEqual(self.fault(house, steps + [step]), len(steps))
        return steps[-1][1]

    def fault(self, house, steps):
        with self.assertRaises(BadStep) as caught:
            broken_at(house, steps)
        return caught.exception.index

    def test_breaking_runs(self):
        for house in some_houses():
            told = breaking(house)
            if told is not None:
                word = "wrong" if told[-1][1] == "wrong" else "told"
                self.assertEqual(broken_at(house, told)[0], word)
                self.assertIsNone(broken_at(house, told[:-1]))
        self.assertEqual(broken_at(counting(), breaking(counting())), ("told", 3))
        self.assertEqual(broken_at(stuck(), breaking(stuck())), ("wrong", 0))

    def test_bad_steps(self):
        house = counting()
        for value in odd_values():
            if value not in ([], ()):
                self.assertEqual(self.fault(house, value), 0 if isinstance(value, (list, tuple)) else -1)
            self.assertEqual(self.fault(house, [(1, "call", "add", 0), value]), 1)
        told = breaking(house)
        self.assertEqual(self.fault(house, told + [(0, "call", "add", 0)] * 2), 9)
        self.assertEqual(self.fault(house, told + [(0, "call", "add", 0)]), 8)
        self.assertEqual(self.fault(house, told * 63), -1)

    def test_long_runs(self):
        house = plain(cell(2), free(cell(2), 2))
        turn = [(1, "call", "set", 1), (0, "call", "get", 0), (1, "do", "", 0), (0, "do", "", 0), (0, "told", "", 1),
                (1, "told", "", 0)]
        self.assertIsNone(broken_at(house, (turn * 100)[:500]))


class Standings(unittest.TestCase):
    def test_drawn_runs_stand_there(self):
        rnd = random.Random(83)
        kept = [house for house in some_houses() if breaking(house) is None]
        for house in kept + [weak_cell("safe").with_contract(only(cell(2), [["set"], []]))]:
            found = standings(house)
            self.assertEqual(found, sorted(set(found)))
            for _ in range(20):
                steps = []
                for _ in range(20):
                    choices = SlowHouse(house, steps).choices()
                    if not choices:
                        break
                    steps.append(rnd.choice(choices))
                    record = run(house, steps)
                    self.assertIn((record.states[-1], lot(house.kind, len(house.sides), record.history)), found)

    def test_new_lists(self):
        house = plain(flag(), free(flag(), 1))
        told = standings(house)
        self.assertIs(type(told), list)
        self.assertTrue(all(type(row) is tuple and len(row) == 2 for row in told))
        told.clear()
        self.assertEqual(len(standings(house)), sizes(house)[1])


class Closed(unittest.TestCase):
    def check(self, house, rows):
        told = closed_fault(house, rows)
        self.assertEqual(told, slow_closed(house, rows))
        return told

    def test_all_standings(self):
        rnd = random.Random(84)
        for house in some_houses():
            found, broken = slow_search(house)
            rnd.shuffle(found)
            for rows in (found, tuple(found), found + odd_values() + found, [list(row) for row in found] + found):
                told = closed_fault(house, rows)
                self.assertEqual(told is None, broken is None)
                if broken is not None:
                    self.assertEqual(told[0], "breaks")
                    self.assertEqual(told, slow_closed(house, found))

    def test_without_some(self):
        rnd = random.Random(85)
        words = {}
        for house in some_houses() + drawn_houses(rnd, 40):
            found, _ = slow_search(house)
            if len(found) > 150:
                continue
            for _ in range(4):
                rows = [row for row in found if rnd.random() < rnd.choice((0.8, 0.97))]
                told = self.check(house, rows)
                words[told and told[0]] = words.get(told and told[0], 0) + 1
        for word in ("begin", "breaks", "lacks"):
            self.assertGreater(words[word], 5)

    def test_each_standing_is_needed(self):
        house = plain(flag(), free(flag(), 1))
        found = standings(house)
        for at, row in enumerate(found):
            rows = found[:at] + found[at + 1:]
            first = row == (initial(house), first_lot(flag(), 1))
            self.assertEqual(self.check(house, rows), ("begin",) if first else ("lacks", row))
        for at, row in enumerate(found):
            told = ("begin",) if row == (initial(house), first_lot(flag(), 1)) else ("lacks", row)
            for other in (list(row), (list(row[0]), row[1]), (row[0], list(row[1])), row + (0,), row[:1],
                          (row[0], row[1] + row[1][:1]), (row[0], row[1][:-1]), (row[0], None), (None, row[1]),
                          (row[0], tuple(map(list, row[1]))), ((row[0][0], [row[0][1]]), row[1])):
                self.assertEqual(closed_fault(house, found[:at] + [other] + found[at + 1:]), told)

    def test_equal_elements(self):
        def flags(value):
            if isinstance(value, tuple):
                return tuple(map(flags, value))
            return bool(value) if isinstance(value, int) and value in (0, 1) else value

        for house in (plain(flag(), free(flag(), 1)), locked()):
            found = standings(house)
            self.assertIsNone(closed_fault(rows=[flags(row) for row in found], house=house))
            self.assertIsNone(closed_fault(house, tuple(found) * 2))
            self.assertIsNone(closed_fault(house, odd_values() + found + [(0, 0), (found[0], found[0]), found]))

    def test_any_value(self):
        house = counting()
        first = (initial(house), first_lot(house.kind, 2))
        for value in odd_values():
            told = closed_fault(house, value)
            self.assertEqual(told, ("begin",) if isinstance(value, (list, tuple)) else ("row",))
            self.assertEqual(closed_fault(house, [value]), ("begin",))
            self.assertEqual(closed_fault(house, [(value, value)]), ("begin",))
            self.assertEqual(closed_fault(house, [(first[0], value)]), ("begin",))
            self.assertEqual(closed_fault(house, [(value, first[1])]), ("begin",))
            if value != first[0][1]:
                self.assertEqual(closed_fault(house, [((first[0][0], value), first[1])]), ("begin",))
            self.assertEqual(closed_fault(house, [value, (first[0], value), first])[0], "lacks")

    def test_wrong_steps_behind_moves(self):
        kind = Kind(1, 0, {"a": (1, 2, [[[(0, 0)]]])})
        dead = Kind(1, 0, {"no": (1, 1, [[[]]])})
        sides = [Side({}, {"a": [("call", "", "d", "no", 0)]}), Side({}, {"a": [("return", 0)]}),
                 Side({}, {"a": [("call", "", "d", "no", 0)]})]
        house = House(kind, [Atomic("d", dead)], free(kind, 3), sides)
        found, _ = slow_search(house)
        told = self.check(house, found)
        self.assertEqual((told[0], told[2]), ("breaks", (0, "wrong", "", -1)))
        behind = dict(moves(house, initial(house)))[(0, "call", "a", 0)]
        rows = [row for row in found if row[0] != dict(moves(house, behind))[(2, "call", "a", 0)]]
        self.assertEqual(self.check(house, rows)[0], "lacks")
        late = House(kind, [Atomic("d", dead)], only(kind, [[], ["a"], ["a"]]), sides)
        self.assertEqual(self.check(late, slow_search(late)[0])[2], (2, "wrong", "", -1))

    def test_what_is_passed_stays(self):
        house = locked()
        found = standings(house)
        rows = list(found) + [[0], {}]
        closed_fault(house, rows)
        self.assertEqual(rows, found + [[0], {}])


if __name__ == "__main__":
    unittest.main()
