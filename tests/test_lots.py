"""Lots: [7.1] to [7.4]."""

import random
import unittest

from tests.helper import (all_histories, lossy, not_below, odd_values, random_history, random_kind, slow_lot,
                          slow_moments, slow_orders, some_kinds)
from towerup.errors import BadEvent, NoCall, NotQuiet
from towerup.histories import quiet, under_way
from towerup.kinds import Kind
from towerup.lots import fault, first_lot, lot, lot_behind, states_at, tellable
from towerup.shelf import cell, choose, counter, flag, queue, swap


def great_kind():
    """Each call may be answered by four results, into two states each."""
    def rows(shift):
        return [[[(result, (state + argument + shift * result + far) % 8) for result in range(4) for far in (0, 3)]
                 for argument in range(4)] for state in range(8)]
    return Kind(8, 0, {name: (4, 4, rows(shift)) for shift, name in enumerate("abcd")})


class Lots(unittest.TestCase):
    def check_lots(self, kind, sides, history):
        """Each lot on the way, by the words of [7.2]; the number of configurations of the last one."""
        told = first_lot(kind, sides)
        self.assertEqual(told, ((kind.start, ((0,),) * sides),))
        for length, event in enumerate(history):
            self.assertEqual(lot(kind, sides, history[:length]), told)
            before = told
            told = lot_behind(kind, sides, told, event)
            self.assertEqual(lot_behind(kind, sides, before, list(event)), told)
            self.assertEqual(told, slow_lot(kind, sides, history[:length + 1]))
            self.assertIs(type(told), tuple)
            self.assertEqual(list(told), sorted(told))
        self.assertEqual(lot(kind, sides, history), told)
        return len(told)

    def test_by_hand(self):
        self.assertEqual(lot(cell(2), 2, [("call", 1, "set", 1), ("call", 0, "get", 0)]), (
            (0, ((1, "get", 0), (1, "set", 1))),
            (0, ((2, 0), (1, "set", 1))),
            (1, ((1, "get", 0), (2, 0))),
            (1, ((2, 0), (2, 0))),
            (1, ((2, 1), (2, 0)))))
        self.assertEqual(lot(kind=cell(2, 1), sides=1, history=()), ((1, ((0,),)),))
        self.assertEqual(first_lot(sides=3, kind=flag()), ((0, ((0,), (0,), (0,))),))
        self.assertEqual(lot_behind(event=("call", 0, "test", 0), lot=((0, ((0,),)),), sides=1, kind=flag()),
                         ((0, ((1, "test", 0),)), (1, ((2, 0),))))

    def test_all_short_histories(self):
        for kind, sides, length in ((flag(), 2, 4), (cell(2), 2, 4), (lossy(), 2, 3), (lossy(), 3, 3)):
            for history in all_histories(kind, sides, length):
                told = lot(kind, sides, history)
                self.assertEqual(told, slow_lot(kind, sides, history))
                self.assertEqual(told, slow_moments(kind, sides, history))

    def test_by_chance(self):
        rnd = random.Random(15)
        empty = 0
        for turn in range(120):
            kind = rnd.choice(some_kinds()) if turn % 2 else random_kind(rnd, most_answers=rnd.choice((1, 3, 8)))
            sides = rnd.randint(1, 3)
            history = random_history(rnd, kind, sides, rnd.randint(4, 16), wrong=rnd.choice((0, 0, 0.2)))
            empty += self.check_lots(kind, sides, history) == 0
        self.assertGreater(empty, 15)
        self.assertLess(empty, 105)

    def test_by_moments(self):
        rnd = random.Random(16)
        for _ in range(150):
            kind = random_kind(rnd, most_states=4, most_answers=3)
            sides = rnd.randint(1, 3)
            history = random_history(rnd, kind, sides, rnd.randint(3, 6), wrong=0.2)
            self.assertEqual(lot(kind, sides, history), slow_moments(kind, sides, history))

    def test_missing_rows_and_several_answers(self):
        self.assertEqual(lot(lossy(), 1, [("call", 0, "go", 1)]), ((0, ((1, "go", 1),)),))
        self.assertEqual(lot(lossy(), 1, [("call", 0, "go", 1), ("told", 0, 1)]), ())
        self.assertEqual(lot(lossy(), 1, [("call", 0, "go", 0)]),
                         ((0, ((1, "go", 0),)), (1, ((2, 0),)), (2, ((2, 1),))))
        self.assertEqual(lot(lossy(), 2, [("call", 0, "go", 1), ("call", 1, "go", 0)]), (
            (0, ((1, "go", 1), (1, "go", 0))), (0, ((2, 0), (2, 0))), (1, ((1, "go", 1), (2, 0))),
            (1, ((2, 0), (2, 1))), (1, ((2, 1), (2, 1))), (2, ((1, "go", 1), (2, 1))), (2, ((2, 0), (2, 0)))))

    def test_what_is_passed_stays(self):
        history = [["call", 0, "set", 1], ["told", 0, 0]]
        before = first_lot(cell(2), 1)
        lot_behind(cell(2), 1, before, history[0])
        lot(cell(2), 1, history)
        self.assertEqual(before, first_lot(cell(2), 1))
        self.assertEqual(history, [["call", 0, "set", 1], ["told", 0, 0]])

    def test_a_tuple_equal_to_a_lot(self):
        event = ("call", 1, "set", 1)
        for told in (((0, ((1, "get", 0), (0,))), (0, ((2, 0), (0,)))),
                     ((False, ((True, "get", False), (False,))), (False, ((2, False), (False,))))):
            self.assertEqual(told, lot(cell(2), 2, [("call", 0, "get", 0)]))
            self.assertEqual(lot_behind(cell(2), 2, told, event), lot(cell(2), 2, [("call", 0, "get", 0), event]))

    def test_three_sides_and_sixty_events(self):
        kind = great_kind()
        turns = [("call", side, name, side) for side, name in enumerate("abc")]
        history = (turns + [("told", side, 1) for side in (2, 0, 1)]) * 10
        self.assertEqual(len(history), 60)
        self.assertIsNone(fault(kind, 3, history))
        self.assertEqual(states_at(kind, 3, history), tuple(range(8)))
        self.assertEqual(tellable(kind, 3, history[:57], 1), [0, 1, 2, 3])
        self.assertGreater(len(lot(kind, 3, history[:57])), 500)
        rnd = random.Random(17)
        for kind in some_kinds()[:-1] + [great_kind()]:
            self.assertIsNone(fault(kind, 3, random_history(rnd, kind, 3, 60, wrong=0)))


class Faults(unittest.TestCase):
    def check_fault(self, kind, sides, history):
        """True if the history is explained."""
        empty = [length for length in range(len(history) + 1) if slow_lot(kind, sides, history[:length]) == ()]
        told = fault(kind, sides, history)
        self.assertEqual(told, empty[0] - 1 if empty else None)
        for length in range(len(history) + 1):
            if told is not None and length > told:
                self.assertEqual(lot(kind, sides, history[:length]), ())
        return told is None

    def test_all_short_histories(self):
        for kind, sides, length in ((flag(), 2, 5), (choose(2), 1, 4), (lossy(), 2, 3), (cell(2), 3, 3)):
            found = []
            for history in all_histories(kind, sides, length):
                found.append(self.check_fault(kind, sides, history))
                self.assertEqual(found[-1], slow_orders(kind, history) != [])
            self.assertEqual(set(found), {True, False})

    def test_by_chance(self):
        rnd = random.Random(18)
        found = []
        for _ in range(150):
            kind = rnd.choice(some_kinds() + [random_kind(rnd)])
            sides = rnd.randint(1, 3)
            history = random_history(rnd, kind, sides, rnd.randint(0, 12), wrong=0.15)
            found.append(self.check_fault(kind, sides, history))
        self.assertEqual(set(found), {True, False})

    def test_by_hand(self):
        history = [("call", 0, "set", 1), ("told", 0, 0), ("call", 1, "get", 0), ("told", 1, 0), ("call", 0, "get", 0)]
        self.assertEqual(fault(cell(2), 2, history), 3)
        self.assertEqual(fault(history=history[:4], sides=3, kind=cell(2)), 3)
        self.assertIsNone(fault(cell(2), 2, history[:3]))
        self.assertIsNone(fault(cell(2), 1, []))
        self.assertEqual(lot(cell(2), 2, history), ())


class Events(unittest.TestCase):
    def check_bad(self, kind, sides, before, event):
        with self.assertRaises(BadEvent):
            lot_behind(kind, sides, before, event)

    def some_lots(self, kind):
        """Lots of two sides, and which sides are under way."""
        call = [("call", side, kind.names()[0], 0) for side in range(2)]
        return [(first_lot(kind, 2), ()), (lot(kind, 2, call[:1]), (0,)), (lot(kind, 2, call), (0, 1))]

    def test_another_thing_in_the_place_of_an_event(self):
        wrong = odd_values() + [("call",), ("told",), ("call", 0), ("told", 0), ("call", 0, "get"),
                                ("call", 0, "get", 0, 0), ("told", 0, 0, 0), "told", {"told": 0}, ("Told", 0, 0),
                                ("call", "get", 0, 0), (0, "told", 0), ["call", 0, "get"], ["tell", 0, 0]]
        for before, _ in self.some_lots(cell(2)) + [((), ())]:
            for value in wrong:
                self.check_bad(cell(2), 2, before, value)

    def test_calls(self):
        for kind in (cell(2), lossy()):
            for before, under in self.some_lots(kind):
                for side in range(2):
                    for name in kind.names():
                        for argument in range(kind.arguments(name)):
                            if side in under:
                                self.check_bad(kind, 2, before, ("call", side, name, argument))
                            else:
                                lot_behind(kind, 2, before, ["call", side, name, argument])
                        for value in not_below(kind.arguments(name)):
                            self.check_bad(kind, 2, before, ("call", side, name, value))
                    for value in odd_values():
                        if not (type(value) is str and value in kind):
                            self.check_bad(kind, 2, before, ("call", side, value, 0))
                for value in not_below(2):
                    self.check_bad(kind, 2, before, ("call", value, kind.names()[0], 0))

    def test_results_up_to_the_greatest_number(self):
        for kind, greatest in ((cell(4), 4), (lossy(), 3), (flag(), 2), (choose(3), 3), (queue(3, 1), 4)):
            for name in kind.names():
                before = lot(kind, 2, [("call", 1, name, 0)])
                for result in range(greatest):
                    told = lot_behind(kind, 2, before, ("told", 1, result))
                    if result < kind.results(name):
                        self.assertEqual(told, lot(kind, 2, [("call", 1, name, 0), ("told", 1, result)]))
                    else:
                        self.assertEqual(told, ())
                for value in not_below(greatest):
                    self.check_bad(kind, 2, before, ("told", 1, value))
                for value in not_below(2):
                    self.check_bad(kind, 2, before, ("told", value, 0))

    def test_told_by_a_side_without_a_call(self):
        for kind in (cell(2), lossy()):
            for before, under in self.some_lots(kind):
                for side in range(2):
                    if side not in under:
                        self.check_bad(kind, 2, before, ("told", side, 0))

    def test_behind_an_empty_lot(self):
        for kind, greatest in ((cell(3), 3), (lossy(), 3)):
            for sides in (1, 2, 3):
                for side in range(sides):
                    for result in range(greatest):
                        self.assertEqual(lot_behind(kind, sides, (), ("told", side, result)), ())
                    for name in kind.names():
                        for argument in range(kind.arguments(name)):
                            self.assertEqual(lot_behind(kind, sides, (), ("call", side, name, argument)), ())
                        for value in not_below(kind.arguments(name)):
                            self.check_bad(kind, sides, (), ("call", side, name, value))
                for value in not_below(sides):
                    self.check_bad(kind, sides, (), ("told", value, 0))
                    self.check_bad(kind, sides, (), ("call", value, kind.names()[0], 0))
                for value in not_below(greatest):
                    self.check_bad(kind, sides, (), ("told", 0, value))


class Tellable(unittest.TestCase):
    def check_tellable(self, kind, sides, history):
        under = under_way(kind, sides, history)
        for side in range(sides):
            if under[side] is None:
                self.check_no_call(kind, sides, history, side)
                continue
            told = tellable(kind, sides, history, side)
            self.assertIs(type(told), list)
            self.assertEqual(told, [result for result in range(kind.results(under[side][0]))
                                    if slow_lot(kind, sides, history + [("told", side, result)]) != ()])
            told.append("more")
            self.assertEqual(tellable(kind, sides, history, side), told[:-1])

    def check_no_call(self, kind, sides, history, side):
        with self.assertRaises(NoCall) as caught:
            tellable(kind, sides, history, side)
        self.assertIs(caught.exception.side, side)

    def test_all_short_histories(self):
        for kind, sides, length in ((flag(), 2, 4), (lossy(), 2, 3), (cell(2), 3, 3)):
            for history in all_histories(kind, sides, length):
                self.check_tellable(kind, sides, history)

    def test_by_chance(self):
        rnd = random.Random(19)
        for _ in range(60):
            kind = rnd.choice(some_kinds() + [random_kind(rnd, most_states=4)])
            sides = rnd.randint(1, 3)
            self.check_tellable(kind, sides, random_history(rnd, kind, sides, rnd.randint(0, 10), wrong=0.1))

    def test_by_hand(self):
        history = [("call", 0, "add", 0), ("call", 1, "add", 0), ("call", 2, "get", 0)]
        self.assertEqual(tellable(counter(4), 3, history, 0), [0, 1])
        self.assertEqual(tellable(side=2, history=history, sides=3, kind=counter(4)), [0, 1, 2])
        self.assertEqual(tellable(lossy(), 1, [("call", 0, "go", 1)], 0), [])
        wrong = [("call", 0, "get", 0), ("told", 0, 1), ("call", 0, "get", 0), ("call", 1, "get", 0)]
        self.assertEqual([tellable(cell(2), 2, wrong, side) for side in (0, 1)], [[], []])

    def test_no_call(self):
        wrong = [("call", 1, "get", 0), ("told", 1, 1)]
        for history in ([], [("call", 1, "get", 0)], wrong, wrong + [("call", 1, "get", 0)]):
            for value in odd_values():
                if not (type(value) is int and value == 1 and history[-1:] == [("call", 1, "get", 0)]):
                    self.check_no_call(cell(2), 2, history, value)
                    self.check_no_call(cell(2), 3, history, value)


class States(unittest.TestCase):
    def test_states(self):
        rnd = random.Random(20)
        several = 0
        for _ in range(150):
            kind = rnd.choice(some_kinds()[-3:] + [random_kind(rnd)])
            sides = rnd.randint(1, 3)
            history = random_history(rnd, kind, sides, 14, wrong=0.1)
            still = quiet(kind, sides, history)
            for length in range(len(history) + 1):
                if length not in still:
                    with self.assertRaises(NotQuiet):
                        states_at(kind, sides, history[:length])
                    continue
                told = states_at(kind, sides, history[:length])
                self.assertEqual(told, tuple(sorted({state for state, _ in slow_lot(kind, sides, history[:length])})))
                self.assertIs(type(told), tuple)
                several += len(told) > 1
        self.assertGreater(several, 10)

    def test_not_quiet(self):
        for history in ([("call", 0, "get", 0)], [("call", 1, "get", 0), ("call", 0, "get", 0), ("told", 1, 0)],
                        [("call", 0, "get", 0), ("told", 0, 1), ("call", 2, "get", 0)]):
            with self.assertRaises(NotQuiet):
                states_at(cell(2), 3, history)
        self.assertEqual(states_at(cell(2), 3, [("call", 0, "get", 0), ("told", 0, 1)]), ())
        self.assertEqual(states_at(history=[], sides=1, kind=swap(3)), (0,))

    def test_the_fact_about_quiet_places(self):
        rnd = random.Random(21)
        places = {True: 0, False: 0}
        for _ in range(250):
            kind = rnd.choice([lossy(), swap(2), flag(), cell(2), random_kind(rnd, most_states=4)])
            sides = rnd.randint(1, 3)
            history = random_history(rnd, kind, sides, 14, wrong=0.05)
            whole = fault(kind, sides, history) is None
            for length in quiet(kind, sides, history):
                states = states_at(kind, sides, history[:length])
                parts = [fault(kind.with_start(state), sides, history[length:]) is None for state in states]
                self.assertEqual(any(parts), whole)
                places[whole] += 0 < length < 14
        self.assertGreater(min(places.values()), 50)


if __name__ == "__main__":
    unittest.main()
