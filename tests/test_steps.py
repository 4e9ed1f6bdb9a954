"""Steps: [12.1] to [12.4], and what gets of weak cells may tell, [10.2]."""

import random
import unittest

from tests.helper import SlowHouse, random_house
from towerup.contracts import Contract, free, only
from towerup.houses import House, plain
from towerup.kinds import Kind
from towerup.programs import Side
from towerup.shelf import cell, counter, flag
from towerup.steps import event_of, initial, moves, wrongs
from towerup.things import Atomic, Weak


def after(house, *steps):
    """The state behind these steps."""
    state = initial(house)
    for step in steps:
        state = dict(moves(house, state))[step]
    return state


def weak_house(word, size, owner, start=1):
    """Each of three sides gets a weak cell, and its owner sets it."""
    gets = {"get": [("call", "r", "w", "get", 3), ("return", "r")], "set": []}
    puts = {**gets, "set": [("call", "", "w", "set", "arg")]}
    store = {"r": (4, 0)}
    return House(cell(4), [Weak("w", word, size, start, owner=owner)], free(cell(4), 3),
                 [Side(store, puts if side == owner else gets) for side in range(3)])


class Steps(unittest.TestCase):
    def check_walk(self, rnd, house, length):
        """A walk of so many steps, at each of which all choices are looked at; the words that came."""
        state, steps, words = initial(house), [], set()
        for _ in range(length):
            slow = SlowHouse(house, steps)
            self.assertEqual(slow.state(), state)
            told = moves(house=house, state=state)
            self.assertIsInstance(told, list)
            choices = slow.choices()
            right = [step for step in choices if step[1] != "wrong"]
            self.assertEqual([step for step, _ in told], right)
            self.assertEqual(wrongs(house, state), [step[0] for step in choices if step[1] == "wrong"])
            words |= {step[1] for step in choices}
            for step, behind in told:
                self.assertEqual(behind, SlowHouse(house, steps + [step]).state())
            if not told:
                break
            step, state = rnd.choice(told[-8:] if rnd.random() < 0.5 else told)
            steps.append(step)
        return words

    def test_by_chance(self):
        rnd = random.Random(51)
        words = {}
        for _ in range(250):
            for word in self.check_walk(rnd, random_house(rnd), 14):
                words[word] = words.get(word, 0) + 1
        for word in ("call", "do", "start", "finish", "told", "wrong"):
            self.assertGreater(words[word], 30, words)

    def test_long_walks(self):
        rnd = random.Random(52)
        for _ in range(12):
            house = random_house(rnd)
            self.check_walk(rnd, house, 60)
        for word in ("safe", "regular"):
            for size in (2, 3, 4):
                for owner in (0, 1, 2):
                    self.check_walk(rnd, weak_house(word, size, owner), 50)

    def test_another_contract(self):
        rnd = random.Random(53)
        looked = 0
        for _ in range(80):
            house = random_house(rnd)
            other = house.with_contract(Contract(house.kind, self.some_rules(rnd, house)))
            state = initial(house)
            for _ in range(20):
                rules = other.contract.rules()
                if all(part[1] == 0 or (part[0], part[2]) in rules[side] for side, part in enumerate(state[0])):
                    looked += 1
                    self.check_other(house, other, state)
                told = moves(house, state)
                if not told:
                    break
                state = rnd.choice(told)[1]
        self.assertGreater(looked, 300)

    def some_rules(self, rnd, house):
        """Rules that let some of what the house's contract lets, and lead elsewhere."""
        return [{key: [rnd.randrange(4) for _ in row] for key, row in rules.items() if rnd.random() < 0.7}
                for rules in house.contract.rules()]

    def check_other(self, house, other, state):
        """The states of both houses differ by what the contracts let and by the modes behind told steps."""
        mine, theirs = dict(moves(house, state)), dict(moves(other, state))
        rules = other.contract.rules()
        for step, behind in mine.items():
            side, word, method, number = step
            mode = state[0][side][0]
            if word == "call":
                self.assertEqual(step in theirs, (mode, method) in rules[side])
            elif word == "told":
                part = list(behind[0][side])
                part[0] = rules[side][(mode, state[0][side][2])][number]
                behind = (behind[0][:side] + (tuple(part),) + behind[0][side + 1:], behind[1])
            if step in theirs:
                self.assertEqual(theirs[step], behind)
        self.assertTrue(set(theirs) <= set(mine) | {step for step in theirs if step[1] == "call"})
        self.assertEqual(wrongs(house, state), wrongs(other, state))

    def test_by_hand(self):
        block = [("call", "x", "c", "get", 0), ("call", "", "c", "set", ("plus", "x", 1)), ("return", "x")]
        side = Side({"x": (2, 0), "a": (3, 2)}, {"add": block})
        house = House(counter(2), [Atomic("c", cell(2))], only(counter(2), [["add"], ["add"]]), [side, side])
        rest = (0, 0, "", -1, -1, (2, 0), -1)
        self.assertEqual(initial(house), ((rest, rest), ((0,),)))
        self.assertEqual(moves(house, initial(house)), [
            ((0, "call", "add", 0), (((0, 1, "add", 0, 0, (2, 0), -1), rest), ((0,),))),
            ((1, "call", "add", 0), ((rest, (0, 1, "add", 0, 0, (2, 0), -1)), ((0,),)))])
        one = after(house, (1, "call", "add", 0), (1, "do", "", 0))
        self.assertEqual(one, ((rest, (0, 1, "add", 0, 1, (2, 0), -1)), ((0,),)))
        two = after(house, (1, "call", "add", 0), (1, "do", "", 0), (1, "do", "", 0))
        self.assertEqual(two, ((rest, (0, 3, "add", 0, -1, (2, 0), 0)), ((1,),)))
        told = after(house, (1, "call", "add", 0), (1, "do", "", 0), (1, "do", "", 0), (1, "told", "", 0))
        self.assertEqual(told, ((rest, rest), ((1,),)))
        self.assertEqual(wrongs(house, two), [])

    def test_modes(self):
        contract = Contract(cell(2), [{(0, "get"): (3, 5), (3, "set"): (0,)}])
        house = plain(cell(2), contract)
        self.assertEqual([step for step, _ in moves(house, initial(house))], [(0, "call", "get", 0)])
        began = after(house, (0, "call", "get", 0), (0, "do", "", 0))
        self.assertEqual(began[0][0][0], 0)
        state = after(house, (0, "call", "get", 0), (0, "do", "", 0), (0, "told", "", 0))
        self.assertEqual(state[0][0], (3, 0, "", -1, -1, (0,), -1))
        self.assertEqual([step for step, _ in moves(house, state)], [(0, "call", "set", 0), (0, "call", "set", 1)])
        over = plain(cell(2, 1), Contract(cell(2, 1), contract.rules()))
        state = after(over, (0, "call", "get", 0), (0, "do", "", 0), (0, "told", "", 1))
        self.assertEqual((state[0][0][0], moves(over, state), wrongs(over, state)), (5, [], []))

    def test_terms_and_values(self):
        kind = Kind(1, 0, {"m": (4, 3, [[[(0, 0), (1, 0), (2, 0)]] * 4])})
        thing = Kind(1, 0, {"put": (3, 4, [[[(0, 0), (3, 0)], [(1, 0)], [(2, 0)]]])})

        def told(block, argument, *steps, store=None):
            side = Side(store or {"x": (4, 3), "y": (2, 1), "plus": (3, 2)}, {"m": block})
            house = House(kind, [Atomic("t", thing)], free(kind, 1), [side])
            return after(house, (0, "call", "m", argument), *steps)[0][0]

        self.assertEqual(told([], 3), (0, 3, "m", 3, -1, (2, 3, 1), 0))
        self.assertEqual(told([("return", 2)], 0)[-1], 2)
        self.assertEqual(told([("return", 3)], 0)[-1], 0)
        self.assertEqual([told([("return", "arg")], argument)[-1] for argument in range(4)], [0, 1, 2, 0])
        self.assertEqual(told([("return", "plus")], 0)[-1], 2)
        self.assertEqual(told([("return", ("plus", "plus", 2))], 0)[-1], 1)
        self.assertEqual(told([("return", ("plus", "x", 3))], 0)[-1], 2)
        self.assertEqual(told([("set", "y", 3)], 0), (0, 3, "m", 0, -1, (2, 3, 1), 0))
        self.assertEqual(told([("set", "y", 2)], 0), (0, 3, "m", 0, -1, (2, 3, 0), 0))
        self.assertEqual(told([("set", "x", ("plus", "y", 1))], 0), (0, 3, "m", 0, -1, (2, 0, 1), 0))
        self.assertEqual(told([("set", "plus", "x")], 0), (0, 3, "m", 0, -1, (0, 3, 1), 0))
        # An if compares with the value as it is: 3 is no value of y.
        self.assertEqual(told([("if", "y", 3, [("return", 1)], [("return", 2)])], 0)[-1], 2)
        self.assertEqual(told([("if", "y", 1, [("return", 1)], [("return", 2)])], 0)[-1], 1)
        self.assertEqual(told([("if", "x", "arg", [("return", 1)], [])], 3)[-1], 1)
        self.assertEqual(told([("if", "x", "arg", [("return", 1)], [])], 2)[-1], 0)
        # Results and arguments of things.
        call = [("call", "y", "t", "put", "arg"), ("return", "y")]
        self.assertEqual(told(call, 3), (0, 1, "m", 3, 0, (2, 3, 1), -1))
        self.assertEqual(told(call, 3, (0, "do", "", 1)), (0, 3, "m", 3, -1, (2, 3, 1), 1))
        self.assertEqual(told(call, 2, (0, "do", "", 0)), (0, 3, "m", 2, -1, (2, 3, 0), 0))
        self.assertEqual(told([("call", "", "t", "put", 1)], 2, (0, "do", "", 0)), (0, 3, "m", 2, -1, (2, 3, 1), 0))

    def test_whiles(self):
        kind = Kind(1, 0, {"m": (1, 4, [[[(result, 0) for result in range(4)]]])})
        body = [("if", "y", 1, [("return", 3)], [("set", "y", ("plus", "y", 1))]), ("call", "x", "f", "test", 0)]
        side = Side({"x": (2, 0), "y": (3, 0)}, {"m": [("while", "x", 0, body), ("set", "x", 0), ("return", "y")]})
        house = House(kind, [Atomic("f", flag())], free(kind, 1), [side])
        call = (0, "call", "m", 0)
        self.assertEqual(after(house, call)[0][0], (0, 1, "m", 0, 4, (0, 1), -1))
        self.assertEqual(after(house, call, (0, "do", "", 0)), (((0, 3, "m", 0, -1, (0, 1), 3),), ((1,),)))
        again = after(house, call, (0, "do", "", 0), (0, "told", "", 3), call)
        self.assertEqual(again[0][0], (0, 3, "m", 0, -1, (0, 1), 3))

    def test_variables_last(self):
        side = Side({"x": (4, 0)}, {"add": [("set", "x", ("plus", "x", 1)), ("return", "x")], "get": []})
        house = House(counter(4), [], free(counter(4), 1), [side])
        state = initial(house)
        self.assertEqual(state[1], ())
        for number in (1, 2, 3, 0, 1):
            state = dict(moves(house, state))[(0, "call", "add", 0)]
            self.assertEqual(state[0][0], (0, 3, "add", 0, -1, (number,), number))
            state = dict(moves(house, state))[(0, "told", "", number)]
            self.assertEqual(state[0][0], (0, 0, "", -1, -1, (number,), -1))

    def test_wrong_steps(self):
        kind = Kind(2, 0, {"go": (2, 1, [[[(0, 1)], []], [[], [(0, 0)]]])})
        house = plain(kind, free(kind, 3))
        state = after(house, (0, "call", "go", 1), (1, "call", "go", 0), (2, "call", "go", 1))
        self.assertEqual(wrongs(house=house, state=state), [0, 2])
        self.assertEqual([step for step, _ in moves(house, state)], [(1, "do", "", 0)])
        state = dict(moves(house, state))[(1, "do", "", 0)]
        self.assertEqual(wrongs(house, state), [])
        self.assertEqual([step for step, _ in moves(house, state)],
                         [(0, "do", "", 0), (1, "told", "", 0), (2, "do", "", 0)])

    def test_told_lists_may_be_changed(self):
        house = plain(cell(2), free(cell(2), 2))
        state = after(house, (0, "call", "get", 0))
        for ask in (moves, wrongs):
            told = ask(house, state)
            told.append(3)
            told.reverse()
            self.assertNotEqual(ask(house, state), told)
        self.assertEqual([type(pair) for pair in moves(house, state)], [tuple] * 4)

    def test_events(self):
        self.assertEqual(event_of((1, "call", "get", 0)), ("call", 1, "get", 0))
        self.assertEqual(event_of(step=(2, "told", "", 3)), ("told", 2, 3))
        self.assertEqual(event_of([2, "told", "", 3]), ("told", 2, 3))
        for step in ((0, "do", "", 1), (0, "start", "", -1), (0, "finish", "", 1), (0, "finish", "", -1),
                     (1, "wrong", "", -1)):
            self.assertIsNone(event_of(step))


class WeakCells(unittest.TestCase):
    def finishes(self, house, side, *steps):
        """What the get of the side may tell behind these steps."""
        return [step[3] for step, _ in moves(house, after(house, *steps)) if step[:2] == (side, "finish")]

    def test_no_set(self):
        for word in ("safe", "regular"):
            for owner in (0, 1, 2):
                house = weak_house(word, 3, owner)
                for side in range(3):
                    steps = [(side, "call", "get", 0), (side, "start", "", -1)]
                    self.assertEqual(self.finishes(house, side, *steps), [1])
                    cells = (1, -1, tuple((1,) if each == side != owner else () for each in range(3)))
                    self.assertEqual(after(house, *steps)[1], (cells,))
                    behind = after(house, *steps, (side, "finish", "", 1))
                    self.assertEqual(behind[1], ((1, -1, ((), (), ())),))
                    self.assertEqual(behind[0][side], (0, 3, "get", 0, -1, (1,), 1))

    def test_a_set_that_overlaps(self):
        get, put = [(1, "call", "get", 0), (1, "start", "", -1)], [(0, "call", "set", 2), (0, "start", "", -1)]
        end = [(0, "finish", "", -1)]
        for word, seen in (("regular", [1, 2]), ("safe", [0, 1, 2])):
            house = weak_house(word, 3, 0)
            for steps in (get + put, put + get, get + put + end, put + get + end, get[:1] + put + get[1:] + end):
                self.assertEqual(self.finishes(house, 1, *steps), seen, steps)
                self.assertEqual(after(house, *steps)[1][0][2], ((), tuple(seen), ()))
            self.assertEqual(self.finishes(house, 1, *put, *end, *get), [2])
            self.assertEqual(self.finishes(house, 1, *put[:1], *get), [1])
            self.assertEqual(after(house, *put)[1], ((1, 2, ((), (), ())),))
            self.assertEqual(after(house, *put, *end)[1], ((2, -1, ((), (), ())),))
            self.assertEqual([step for step, _ in moves(house, after(house, *put)) if step[0] == 0],
                             [(0, "finish", "", -1)])

    def test_several_sets(self):
        get = [(2, "call", "get", 0), (2, "start", "", -1)]

        def put(value):
            return [(1, "call", "set", value), (1, "start", "", -1), (1, "finish", "", -1), (1, "told", "", 0)]
        for word, seens in (("regular", ([0, 1], [0, 1, 3], [0, 1, 3])), ("safe", ([0, 1, 2, 3],) * 3)):
            house = weak_house(word, 4, 1)
            steps = list(get)
            for value, seen in zip((0, 3, 1), seens):
                steps += put(value)
                self.assertEqual(self.finishes(house, 2, *steps), seen)
            self.assertEqual(after(house, *steps)[1], ((1, -1, ((), (), tuple(seens[2]))),))
            two = [(0, "call", "get", 0), (0, "start", "", -1)]
            self.assertEqual(self.finishes(house, 0, *steps, *two), [1])
            self.assertEqual(self.finishes(house, 2, *steps, *two), seens[2])
            self.assertEqual(self.finishes(house, 2, *steps, (2, "finish", "", 0), (2, "told", "", 0), *get), [1])

    def test_the_argument_of_a_set(self):
        house = weak_house("regular", 3, 0)
        state = after(house, (0, "call", "set", 3), (0, "start", "", -1))
        self.assertEqual(state[1], ((1, 0, ((), (), ())),))
        self.assertEqual(dict(moves(house, state))[(0, "finish", "", -1)][1], ((0, -1, ((), (), ())),))


if __name__ == "__main__":
    unittest.main()
