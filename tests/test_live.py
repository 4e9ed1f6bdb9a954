"""Live houses: [20.1]."""

import random
import unittest

from tests.helper import (
    SlowHouse, counting, drawn_houses, locked, not_below, odd_values, random_house, some_houses, stuck)
from towerup.contracts import free, only
from towerup.errors import BadStep, NoCall, NoSide, NoStep
from towerup.houses import House, plain
from towerup.kinds import Kind
from towerup.live import Live
from towerup.lots import fault, first_lot, lot, lot_behind, tellable
from towerup.programs import Side
from towerup.shelf import cell, counter, flag
from towerup.steps import event_of, initial, moves, wrongs
from towerup.verdicts import breaking


class Told:
    """What a live house should tell behind some steps, reckoned anew by moves and lots."""

    def __init__(self, house, steps):
        self.house, self.steps = house, [tuple(step) for step in steps]
        self.state = initial(house)
        for step in self.steps:
            self.state = dict(moves(house, self.state))[step]
        self.events = [event_of(step) for step in self.steps if event_of(step)]
        self.lots = [first_lot(house.kind, len(house.sides))]
        for event in self.events:
            self.lots.append(lot_behind(house.kind, len(house.sides), self.lots[-1], event) if self.lots[-1] else ())
        self.broken = self.lots.index(()) - 1 if () in self.lots else None

    def asked(self, side):
        """The list of results, or None if no call is under way."""
        if self.state[0][side][1] == 0:
            return None
        return sorted({statuses[side][1] for _, statuses in self.lots[-1] if statuses[side][0] == 2})

    def choices(self):
        return [step for step, _ in moves(self.house, self.state)]


class Lives(unittest.TestCase):
    def check(self, live, house, steps):
        """The live house stands behind these steps."""
        told = Told(house, steps)
        self.assertEqual((len(live), live.state, live.broken), (len(steps), told.state, told.broken))
        self.assertEqual((live.lot(), live.events()), (told.lots[-1], told.events))
        self.assertIs(type(live.events()), list)
        for side in range(len(house.sides)):
            results = told.asked(side)
            if results is None:
                with self.assertRaises(NoCall) as caught:
                    live.asked(side)
                self.assertEqual(caught.exception.side, side)
            else:
                self.assertEqual((live.asked(side), type(live.asked(side))), (results, list))
        if len(told.events) <= 60:
            sides = len(house.sides)
            self.assertEqual(live.lot(), lot(house.kind, sides, told.events))
            self.assertEqual(live.broken, fault(house.kind, sides, told.events))
            for side in range(sides):
                if told.asked(side) is not None:
                    self.assertEqual(live.asked(side), tellable(house.kind, sides, told.events, side))
        return told

    def test_by_chance(self):
        rnd = random.Random(141)
        broken = 0
        for house in some_houses() + drawn_houses(rnd, 30) + [random_house(rnd) for _ in range(20)]:
            live, steps = Live(house=house), []
            for _ in range(60):
                told = self.check(live, house, steps)
                choices = told.choices()
                if steps and rnd.random() < 0.2:
                    self.assertEqual(live.back(), steps.pop())
                elif choices and rnd.random() < 0.8:
                    step = rnd.choice(choices)
                    self.assertEqual(live.step(step=rnd.choice((list, tuple))(step)), event_of(step))
                    steps.append(step)
                elif rnd.random() < 0.5:
                    steps = self.take_a_row(rnd, live, house, steps)
                else:
                    steps = self.rehearse(rnd, live, house, steps)
            broken += live.broken is not None
        self.assertGreater(broken, 15)

    def take_a_row(self, rnd, live, house, steps):
        row = []
        for _ in range(rnd.randint(0, 5)):
            choices = Told(house, steps + row).choices()
            if not choices:
                break
            row.append(rnd.choice(choices))
        some = rnd.choice((list, tuple))(map(rnd.choice((list, tuple)), row))
        before = live
        if rnd.random() < 0.5:
            cut = rnd.randint(0, len(row))
            wrong = (*some[:cut], rnd.choice((None, (0, "no", "", 0), (0, "wrong", "", -1), [])), *some[cut:])
            with self.assertRaises(BadStep) as caught:
                live += wrong
            self.assertEqual(caught.exception.index, len(steps) + cut)
            self.check(live, house, steps)
        live += some
        self.assertIs(live, before)
        return steps + row

    def rehearse(self, rnd, live, house, steps):
        other = live.rehearsal()
        self.assertIs(type(other), Live)
        self.assertIsNot(other, live)
        for _ in range(rnd.randint(0, 4)):
            choices = [step for step, _ in moves(house, other.state)]
            if choices and rnd.random() < 0.7:
                other.step(rnd.choice(choices))
            elif len(other):
                other.back()
        self.check(live, house, steps)
        with live.rehearsal() as again:
            self.check(again, house, steps)
            choices = [step for step, _ in moves(house, again.state)]
            if choices:
                again.step(choices[-1])
                live.step(choices[0])
                self.check(again, house, steps + choices[-1:])
                return steps + choices[:1]
        return steps

    def test_by_hand(self):
        house = counting()
        live = Live(house)
        self.assertEqual((live.state, live.broken, len(live), live.events()), (initial(house), None, 0, []))
        self.assertEqual(live.lot(), first_lot(counter(2), 2))
        broken = breaking(house)
        self.assertEqual(live.step(broken[0]), ("call", 0, "add", 0))
        self.assertIsNone(live.step(broken[1]))
        self.assertEqual(live.asked(0), [0])
        live += broken[2:]
        self.assertEqual((live.broken, live.lot(), len(live)), (3, (), 8))
        live.step((0, "call", "add", 0))
        self.assertEqual((live.asked(side=0), live.broken), ([], 3))
        self.assertEqual(live.back(), (0, "call", "add", 0))
        self.assertEqual(live.back(), broken[-1])
        self.assertEqual((live.broken, live.asked(1)), (None, [1]))
        for _ in range(7):
            live.back()
        self.assertEqual((live.state, len(live)), (initial(house), 0))
        with self.assertRaises(NoStep):
            live.back()

    def test_several_hundred_steps(self):
        rnd = random.Random(142)
        for house in (plain(cell(2), free(cell(2), 2)), locked(), counting()):
            live, steps = Live(house), []
            for number in range(700):
                choices = [step for step, _ in moves(house, live.state)]
                steps.append(rnd.choice(choices))
                live.step(steps[-1])
                if number in (3, 350, 699):
                    self.check(live, house, steps)
            with live.rehearsal() as other:
                other += steps[:0]
                self.check(other, house, steps)
            for _ in range(400):
                self.assertEqual(live.back(), steps.pop())
            self.check(live, house, steps)
            fresh = Live(house)
            fresh += steps
            self.check(fresh, house, steps)

    def test_long_rows(self):
        house = plain(cell(2), free(cell(2), 2))
        turn = [(1, "call", "set", 1), (0, "call", "get", 0), (1, "do", "", 0), (0, "do", "", 0), (0, "told", "", 1),
                (1, "told", "", 0)]
        live = Live(house)
        live += turn * 100
        self.assertEqual((len(live), len(live.events()), live.broken), (600, 400, None))
        live.step(turn[0])
        self.assertEqual(live.asked(1), [0])
        with self.assertRaises(BadStep) as caught:
            live += turn[1:] + turn[:3] + turn[:1]
        self.assertEqual((caught.exception.index, len(live)), (609, 601))

    def test_steps_that_are_not_possible(self):
        house = counting()
        live = Live(house)
        taken = breaking(house)[:3]
        for many in range(4):
            for value in odd_values() + [(0, "told", "", 0), (0, "wrong", "", -1), (0, "do", "", 1),
                                         (0, "call", "get", 0), (False, "call", "add", 0), (1, "call", "add", False),
                                         (0, "call", "add"), (0, "call", "add", 0, 0), (2, "call", "add", 0)]:
                with self.assertRaises(BadStep) as caught:
                    live.step(value)
                self.assertEqual(caught.exception.index, many)
            self.check(live, house, taken[:many])
            if many < 3:
                live.step(list(taken[many]))

    def test_wrong_steps_are_never_taken(self):
        house = stuck()
        live = Live(house)
        live.step((0, "call", "go", 0))
        self.assertEqual(wrongs(house, live.state), [0])
        with self.assertRaises(BadStep) as caught:
            live.step((0, "wrong", "", -1))
        self.assertEqual(caught.exception.index, 1)
        with self.assertRaises(BadStep) as caught:
            live += [(0, "wrong", "", -1)]
        self.assertEqual(caught.exception.index, 1)
        self.assertEqual((live.asked(0), live.lot()), ([], ((0, ((1, "go", 0),)),)))

    def test_rows_that_are_none(self):
        house = counting()
        live = before = Live(house)
        live.step((0, "call", "add", 0))
        for value in odd_values():
            if value in ([], ()):
                live += value
                continue
            with self.assertRaises(BadStep) as caught:
                live += value
            self.assertEqual(caught.exception.index, 1 if isinstance(value, (list, tuple)) else -1)
            self.assertIs(live, before)
            with self.assertRaises(BadStep) as caught:
                live += [(0, "do", "", 0), value, (0, "do", "", 0)]
            self.assertEqual(caught.exception.index, 2)
        with self.assertRaises(BadStep) as caught:
            live += live
        self.assertEqual(caught.exception.index, -1)
        self.check(live, house, [(0, "call", "add", 0)])

    def test_asked(self):
        live = Live(plain(flag(), only(flag(), [["test"], ["clear"], []])))
        for value in not_below(3):
            for _ in range(2):
                with self.assertRaises(NoSide) as caught:
                    live.asked(value)
                self.assertIs(caught.exception.side, value)
        for side in range(3):
            with self.assertRaises(NoCall) as caught:
                live.asked(side)
            self.assertEqual(caught.exception.side, side)
        live.step((0, "call", "test", 0))
        self.assertEqual(live.asked(0), [0])
        with self.assertRaises(NoCall):
            live.asked(1)

    def test_asked_by_the_lot_not_by_the_house(self):
        # The house always tells 1, which the kind never does.
        kind = Kind(1, 0, {"a": (1, 3, [[[(0, 0), (2, 0)]]])})
        house = House(kind, [], free(kind, 1), [Side({}, {"a": [("return", 1)]})])
        live = Live(house)
        live.step((0, "call", "a", 0))
        self.assertEqual((live.asked(0), live.broken), ([0, 2], None))
        live.step((0, "told", "", 1))
        self.assertEqual((live.broken, live.lot()), (1, ()))
        live.step((0, "call", "a", 0))
        live.step((0, "told", "", 1))
        self.assertEqual((live.broken, live.events()), (1, [("call", 0, "a", 0), ("told", 0, 1)] * 2))

    def test_rehearsals(self):
        house = counting()
        live = Live(house)
        live += breaking(house)
        with live.rehearsal() as other:
            self.assertEqual((len(other), other.broken, other.lot()), (8, 3, ()))
            other.back()
            self.assertIsNone(other.broken)
            with other.rehearsal() as third:
                third += [(1, "told", "", 0), (1, "call", "add", 0)]
            self.assertEqual((len(third), len(other), len(live)), (9, 7, 8))
        self.assertEqual(live.broken, 3)
        with self.assertRaises(KeyError):
            with live.rehearsal() as other:
                raise KeyError("told")
        with live as same:
            self.assertIs(same, live)

    def test_told_lists_may_be_changed(self):
        live = Live(counting())
        live.step((0, "call", "add", 0))
        live.events().clear()
        live.asked(0).clear()
        self.assertEqual((live.events(), live.asked(0)), ([("call", 0, "add", 0)], [0]))
        row = [[0, "do", "", 0], (0, "do", "", 0)]
        live += row
        self.assertEqual(row, [[0, "do", "", 0], (0, "do", "", 0)])
        self.assertEqual(live.back(), (0, "do", "", 0))

    def test_held_against_the_words(self):
        rnd = random.Random(143)
        for _ in range(20):
            house = random_house(rnd)
            live, steps = Live(house), []
            for _ in range(15):
                choices = [step for step in SlowHouse(house, steps).choices() if step[1] != "wrong"]
                if not choices:
                    break
                steps.append(rnd.choice(choices))
                live.step(steps[-1])
                self.assertEqual(live.state, SlowHouse(house, steps).state())


if __name__ == "__main__":
    unittest.main()
