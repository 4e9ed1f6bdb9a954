"""Runs: [13.1] and [13.2]."""

import random
import unittest

from tests.helper import SlowHouse, odd_values, random_house, stuck
from towerup.contracts import free
from towerup.errors import BadNumbers, BadStep, NoStep
from towerup.houses import plain
from towerup.kinds import Kind
from towerup.runs import Record, Running, run
from towerup.shelf import cell, flag
from towerup.steps import event_of, initial, moves


def random_run(rnd, house, length):
    """Steps of a run, perhaps with a wrong one at the end."""
    steps, state = [], initial(house)
    for _ in range(length):
        choices = SlowHouse(house, steps).choices() if rnd.random() < 0.5 else []
        bad = [step for step in choices if step[1] == "wrong"]
        told = moves(house, state)
        if bad:
            return steps + [rnd.choice(bad)]
        if not told:
            return steps
        step, state = rnd.choice(told)
        steps.append(step)
    return steps


def long_run():
    """A house and a run of it with 600 steps."""
    house = plain(cell(2), free(cell(2), 2))
    turn = [(1, "call", "set", 1), (0, "call", "get", 0), (1, "do", "", 0), (0, "do", "", 0), (0, "told", "", 1),
            (1, "told", "", 0)]
    return house, turn * 100


class Runs(unittest.TestCase):
    def check_record(self, house, steps):
        record = run(house, steps)
        self.assertIsInstance(record, Record)
        self.assertEqual(record.steps, [tuple(step) for step in steps])
        right = [step for step in record.steps if step[1] != "wrong"]
        self.assertEqual(record.states, [SlowHouse(house, right[:many]).state() for many in range(len(right) + 1)])
        self.assertEqual(record.history, [event_of(step) for step in right if step[1] in ("call", "told")])
        for row in (record.steps, record.states, record.history):
            self.assertIs(type(row), list)
        return record

    def test_by_chance(self):
        rnd = random.Random(71)
        wrong = 0
        for _ in range(150):
            house = random_house(rnd)
            steps = random_run(rnd, house, rnd.randint(0, 25))
            rows = rnd.choice((list, tuple))([rnd.choice((list, tuple))(step) for step in steps])
            self.check_record(house, rows)
            wrong += bool(steps) and steps[-1][1] == "wrong"
        self.assertGreater(wrong, 15)

    def test_new_records(self):
        house, steps = long_run()
        steps = steps[:6]
        record, other = run(house, steps), run(steps=steps, house=house)
        self.assertIsNot(record, other)
        record.steps.pop()
        record.states.clear()
        record.history.append(0)
        steps.append(3)
        self.assertEqual(other.steps, steps[:6])
        self.assertEqual(len(other.states), 7)
        self.assertEqual(other.history, [("call", 1, "set", 1), ("call", 0, "get", 0), ("told", 0, 1), ("told", 1, 0)])
        self.assertEqual(len(run(house, other.steps).states), 7)

    def test_500_steps(self):
        house, steps = long_run()
        record = run(house, steps[:500])
        self.assertEqual((len(record.steps), len(record.states)), (500, 501))
        self.assertEqual(len(record.history), len([step for step in steps[:500] if step[1] != "do"]))
        self.assertEqual(self.fault(house, steps[:501]), -1)
        self.assertEqual(self.fault(house, [None] * 501), -1)
        self.assertEqual(self.fault(house, [None] * 500), 0)

    def fault(self, house, steps):
        with self.assertRaises(BadStep) as caught:
            run(house, steps)
        return caught.exception.index

    def test_no_rows(self):
        house = long_run()[0]
        for value in odd_values():
            if not isinstance(value, (list, tuple)):
                self.assertEqual(self.fault(house, value), -1)
            elif value:
                self.assertEqual(self.fault(house, value), 0)
            self.assertEqual(self.fault(house, [(0, "call", "get", 0), value]), 1)
        self.assertEqual(run(house, ()).steps, [])
        self.assertEqual(self.fault(house, (0, "call", "get", 0)), 0)

    def test_spoiled_steps(self):
        rnd = random.Random(72)
        for _ in range(120):
            house = random_house(rnd)
            steps = random_run(rnd, house, 14)
            if not steps:
                continue
            at = rnd.randrange(len(steps))
            side, word, method, number = steps[at]
            others = [(side + 1, word, method, number), (side - 1, word, method, number), (side, word, "get", number),
                      (side, word, method, number + 1), (side, word, method, number - 1), (bool(side), word, method, number),
                      (side, word, method, bool(number)), (side, word, method), (side, word, method, number, 0),
                      (side, word, method, None), (side, word, None, number), (str(side), word, method, number), {},
                      (side, word, [method], number), [side, [word], method, number], "step", None, ()]
            others += [(side, each, method, number) for each in ("call", "do", "start", "finish", "told", "wrong", "go")]
            others += [(side, "call", each, number) for each in house.kind.names()] + odd_values()
            choices = SlowHouse(house, steps[:at]).choices()
            for other in others:
                plainly = (isinstance(other, (list, tuple)) and not any(isinstance(item, bool) for item in other)
                           and tuple(other) in choices)
                if not plainly:
                    for behind in (steps[at + 1:], [], [None]):
                        self.assertEqual(self.fault(house, steps[:at] + [other] + behind), at)

    def slow_fault(self, house, steps):
        for at, step in enumerate(steps):
            wrong = at > 0 and steps[at - 1][1] == "wrong"
            if wrong or step not in SlowHouse(house, steps[:at]).choices():
                return at
        return None

    def test_moved_steps(self):
        rnd = random.Random(73)
        faults = 0
        for _ in range(150):
            house = random_house(rnd)
            steps = random_run(rnd, house, 14)
            if len(steps) < 2:
                continue
            at = rnd.randrange(len(steps))
            to = rnd.randrange(len(steps))
            moved = steps[:at] + steps[at + 1:]
            moved.insert(to, steps[at])
            for row in (steps[:at] + steps[at + 1:], steps[:at + 1] + steps[at:], moved, steps + steps[-1:]):
                fault = self.slow_fault(house, row)
                if fault is None:
                    self.check_record(house, row)
                else:
                    faults += 1
                    self.assertEqual(self.fault(house, row), fault)
        self.assertGreater(faults, 150)

    def test_behind_a_wrong_step(self):
        house = stuck()
        steps = [(0, "call", "go", 0), (0, "wrong", "", -1)]
        record = self.check_record(house, steps)
        self.assertEqual((len(record.states), record.history), (2, [("call", 0, "go", 0)]))
        for step in (steps[1], steps[0], (0, "told", "", 0), None):
            self.assertEqual(self.fault(house, steps + [step]), 2)
        self.assertEqual(self.fault(house, [steps[1]]), 0)


class Runnings(unittest.TestCase):
    def check(self, house, running, steps):
        right = [step for step in steps if step[1] != "wrong"]
        broken = len(right) < len(steps)
        slow = SlowHouse(house, right)
        self.assertEqual(running.state, None if broken else slow.state())
        choices = [] if broken else slow.choices()
        self.assertEqual(running.choices(), choices)
        self.assertEqual(len(running), len(steps))
        record, other = running.record(), run(house, steps)
        self.assertIsInstance(record, Record)
        self.assertIsNot(record, running.record())
        self.assertEqual((record.steps, record.states, record.history), (other.steps, other.states, other.history))
        return choices

    def test_many_actions(self):
        rnd = random.Random(74)
        back = 0
        for _ in range(60):
            house = random_house(rnd)
            running, steps = Running(house=house), []
            for _ in range(25):
                choices = self.check(house, running, steps)
                if steps and (not choices or rnd.random() < 0.3):
                    self.assertEqual(running.back(), steps.pop())
                    back += 1
                    continue
                if not choices:
                    break
                step = rnd.choice(choices)
                for row in (step, list(step)):
                    self.assertIs(running.can(row), True)
                self.assertEqual(running.step(rnd.choice((list, tuple))(step)), event_of(step))
                steps.append(step)
                self.wrong_step(rnd, running, rnd.choice(odd_values() + [step, choices[0]]))
        self.assertGreater(back, 50)

    def wrong_step(self, rnd, running, step):
        if not (isinstance(step, tuple) and step in running.choices()):
            before = (running.state, len(running))
            self.assertIs(running.can(step=step), False)
            with self.assertRaises(BadStep) as caught:
                running.step(step=step)
            self.assertEqual(caught.exception.index, len(running))
            self.assertEqual((running.state, len(running)), before)

    def test_can(self):
        house = plain(flag(), free(flag(), 2))
        running = Running(house)
        self.assertEqual(running.choices(), [(0, "call", "clear", 0), (0, "call", "test", 0), (1, "call", "clear", 0),
                                             (1, "call", "test", 0)])
        for value in odd_values() + [(0, "call", "test", False), (False, "call", "test", 0), (True, "call", "test", 0),
                                     (0, "call", "test"), (0, "call", "test", 0, 0), (2, "call", "test", 0),
                                     (0, "call", "test", 1), [[0, "call", "test", 0]], (0, "told", "", 0),
                                     (0, "wrong", "", -1), (0, "call", ["test"], 0), (0, {}, "test", 0)]:
            self.assertIs(running.can(value), False)
            with self.assertRaises(BadStep) as caught:
                running.step(value)
            self.assertEqual(caught.exception.index, 0)
        self.assertIs(running.can([1, "call", "test", 0]), True)
        self.assertEqual(running.step([1, "call", "test", 0]), ("call", 1, "test", 0))
        self.assertIsNone(running.step((1, "do", "", 0)))
        self.assertEqual(running.step((1, "told", "", 0)), ("told", 1, 0))
        self.assertEqual(running.record().steps[0], (1, "call", "test", 0))

    def test_behind_a_wrong_step(self):
        house = stuck()
        running = Running(house)
        running.step((0, "call", "go", 0))
        self.assertEqual(running.choices(), [(0, "wrong", "", -1)])
        self.assertIsNone(running.step((0, "wrong", "", -1)))
        self.assertEqual((running.state, running.choices(), len(running)), (None, [], 2))
        self.assertIs(running.can((0, "wrong", "", -1)), False)
        self.assertEqual(list(running.wander([1, 2, 3])), [])
        with self.assertRaises(BadStep) as caught:
            running.step((0, "call", "go", 0))
        self.assertEqual(caught.exception.index, 2)
        self.assertEqual(len(running.record().states), 2)
        self.assertEqual(running.back(), (0, "wrong", "", -1))
        self.assertEqual(running.state, run(house, [(0, "call", "go", 0)]).states[-1])

    def test_no_step(self):
        running = Running(stuck())
        with self.assertRaises(NoStep):
            running.back()
        running.step((0, "call", "go", 0))
        running.back()
        with self.assertRaises(NoStep):
            running.back()
        self.assertEqual((len(running), running.state), (0, initial(stuck())))

    def test_longer_than_500(self):
        house, steps = long_run()
        running = Running(house)
        for step in steps:
            running.step(step)
        self.assertEqual(len(running), 600)
        self.assertEqual(len(running.record().states), 601)

    def test_told_lists_may_be_changed(self):
        running = Running(plain(flag(), free(flag(), 1)))
        running.choices().clear()
        running.record().states.clear()
        running.record().steps.append(3)
        self.assertEqual(len(running.choices()), 2)
        running.step((0, "call", "test", 0))
        self.assertEqual(len(running.record().states), 2)


class Wandering(unittest.TestCase):
    def test_by_chance(self):
        rnd = random.Random(75)
        ended = 0
        for _ in range(100):
            house = random_house(rnd)
            numbers = [rnd.choice((rnd.randint(-9, 20), rnd.randint(-10 ** 20, 10 ** 20))) for _ in range(20)]
            running, steps = Running(house), []
            for number in numbers:
                right = not steps or steps[-1][1] != "wrong"
                choices = SlowHouse(house, steps).choices() if right else []
                if not choices:
                    ended += 1
                    break
                steps.append(choices[number % len(choices)])
            self.assertEqual(list(running.wander(numbers=rnd.choice((list, tuple))(numbers))), steps)
            self.assertEqual(running.record().steps, steps)
        self.assertGreater(ended, 5)

    def test_it_takes_a_step_when_it_is_asked(self):
        running = Running(plain(flag(), free(flag(), 2)))
        wandering = running.wander([-1, 0, 5, 1])
        self.assertEqual(len(running), 0)
        self.assertEqual(next(wandering), (1, "call", "test", 0))
        self.assertEqual(len(running), 1)
        self.assertEqual(next(wandering), (0, "call", "clear", 0))
        self.assertEqual(running.back(), (0, "call", "clear", 0))
        self.assertEqual(next(wandering), (1, "do", "", 0))
        self.assertEqual(len(running), 2)
        self.assertEqual(list(wandering), [(0, "call", "test", 0)])
        self.assertEqual(list(running.wander([])), [])

    def test_the_end(self):
        running = Running(stuck())
        self.assertEqual(list(running.wander([7] * 5)), [(0, "call", "go", 0), (0, "wrong", "", -1)])
        kind = Kind(1, 0, {"go": (1, 1, [[[(0, 0)]]])})
        self.assertEqual(len(list(Running(plain(kind, free(kind, 1))).wander([0] * 50))), 50)

    def test_bad_numbers(self):
        running = Running(plain(flag(), free(flag(), 2)))
        for value in odd_values():
            right = isinstance(value, (list, tuple)) and all(
                isinstance(item, int) and not isinstance(item, bool) for item in value)
            if not right:
                wandering = running.wander(value)
                with self.assertRaises(BadNumbers):
                    next(wandering)
            if not isinstance(value, int) or isinstance(value, bool):
                wandering = running.wander([0, 1, value])
                with self.assertRaises(BadNumbers):
                    next(wandering)
        self.assertEqual(len(running), 0)
        running = Running(stuck())
        list(running.wander([0, 0]))
        with self.assertRaises(BadNumbers):
            next(running.wander([None]))

    def test_what_is_passed_stays(self):
        numbers = [3, 4, 5]
        list(Running(plain(flag(), free(flag(), 2))).wander(numbers))
        self.assertEqual(numbers, [3, 4, 5])

    def test_what_is_changed_afterwards(self):
        numbers = [3, 0, 0]
        running = Running(plain(flag(), free(flag(), 2)))
        wandering = running.wander(numbers)
        self.assertEqual(next(wandering), (1, "call", "test", 0))
        numbers[1] = None
        numbers.append(0)
        self.assertEqual(list(wandering), [(0, "call", "clear", 0), (0, "do", "", 0)])


if __name__ == "__main__":
    unittest.main()
