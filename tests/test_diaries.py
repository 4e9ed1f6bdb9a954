"""Diaries: [19.1]."""

import random
import unittest
from itertools import product

from tests.helper import (
    all_histories, lossy, not_between, odd_values, random_history, random_kind, slow_lot, some_kinds)
from towerup.diaries import filling_count, fillings, first_fault, sure_results
from towerup.errors import BadHistory, BadSides, NoOrder, TooMany
from towerup.histories import calls_of
from towerup.kinds import Kind
from towerup.lots import fault, first_lot, lot_behind
from towerup.shelf import cell, choose, counter, flag, queue, swap

FUNCTIONS = (fillings, filling_count, sure_results, first_fault)


def is_open(event):
    return event[0] == "told" and event[2] is None


def filled(diary, results):
    """The diary with these results, one for each None."""
    results = list(results)
    return [(*event[:2], results.pop(0)) if is_open(event) else tuple(event) for event in diary]


def unknown_results(kind, diary):
    """For each None the numbers that its method may tell."""
    under, found = {}, []
    for event in diary:
        if event[0] == "call":
            under[event[1]] = event[2]
        elif is_open(event):
            found.append(range(kind.results(under[event[1]])))
    return found


def slow_fillings(kind, sides, diary):
    return [results for results in product(*unknown_results(kind, diary))
            if slow_lot(kind, sides, filled(diary, results))]


def slow_count(kind, sides, diary):
    """The number of fillings by all lots at each event, and how many fillings of the part up to it lead to each."""
    counts, under = {first_lot(kind, sides): 1}, {}
    for event in diary:
        if event[0] == "call":
            under[event[1]] = event[2]
        events = [(*event[:2], told) for told in range(kind.results(under[event[1]]))] if is_open(event) else [event]
        further = {}
        for lot, many in counts.items():
            for each in events:
                behind = lot_behind(kind, sides, lot, each)
                if behind:
                    further[behind] = further.get(behind, 0) + many
        counts = further
    return sum(counts.values())


def slow_sure(kind, sides, diary):
    """sure_results by all fillings; None if there is no filling."""
    found = slow_fillings(kind, sides, diary)
    rows = [[call[3] for call in calls_of(kind, sides, filled(diary, results))] for results in found]
    return [told[0] if len(set(told)) == 1 else None for told in zip(*rows)] if rows else None


def slow_first_fault(kind, sides, diary):
    for many in range(len(diary) + 1):
        if not slow_fillings(kind, sides, diary[:many]):
            return many - 1
    return None


def drawn_diary(rnd, kind, sides, length, unknown=0.6):
    """A diary with not more than four results that are not known."""
    diary, many = [], 0
    for event in random_history(rnd, kind, sides, length, rnd.choice((0, 0.1, 0.4))):
        if event[0] == "told" and many < 4 and rnd.random() < unknown:
            event = (*event[:2], None)
            many += 1
        diary.append(event)
    return diary


def long_diary(kind, sides, method, events=60):
    """All sides call the method, and then all of them are told, again and again; nothing is known."""
    turn = [("call", side, method, 0) for side in range(sides)] + [("told", side, None) for side in range(sides)]
    return (turn * events)[:events]


class Diaries(unittest.TestCase):
    def check(self, kind, sides, diary):
        found = slow_fillings(kind, sides, diary)
        told = fillings(diary=diary, sides=sides, kind=kind)
        self.assertEqual((told, type(told)), (found, list))
        self.assertTrue(all(type(results) is tuple for results in told))
        self.assertEqual(filling_count(diary=diary, sides=sides, kind=kind), len(found))
        self.assertEqual(first_fault(diary=diary, sides=sides, kind=kind), slow_first_fault(kind, sides, diary))
        sure = slow_sure(kind, sides, diary)
        if sure is None:
            with self.assertRaises(NoOrder):
                sure_results(kind, sides, diary)
        else:
            told = sure_results(diary=diary, sides=sides, kind=kind)
            self.assertEqual((told, type(told)), (sure, list))
        return found

    def test_by_chance(self):
        rnd = random.Random(131)
        counts = {}
        for _ in range(700):
            kind = rnd.choice(some_kinds() + [random_kind(rnd, 4, 3, 3, 3)] * 8)
            sides = rnd.randint(1, 3)
            diary = drawn_diary(rnd, kind, sides, rnd.randint(0, 12))
            many = len(self.check(kind, sides, rnd.choice((list, tuple))(map(rnd.choice((list, tuple)), diary))))
            counts[min(many, 3)] = counts.get(min(many, 3), 0) + 1
        self.assertGreater(min(counts.get(many, 0) for many in range(4)), 60, counts)

    def test_all_short_ones(self):
        for kind in (flag(), lossy()):
            for history in all_histories(kind, 2, 4):
                for told in (0, 1):
                    diary = [(*event[:2], None) if event[0] == "told" and event[1] >= told else event
                             for event in history]
                    self.check(kind, 2, diary)

    def test_by_hand(self):
        diary = [("call", 0, "set", 1), ("told", 0, None), ("call", 1, "get", 0), ("told", 1, None)]
        self.assertEqual(sure_results(cell(2), 2, diary), [0, 1])
        self.assertEqual(fillings(cell(2), 2, diary), [(0, 1)])
        self.assertEqual(filling_count(cell(2), 2, diary), 1)
        self.assertIsNone(first_fault(cell(2), 2, diary))
        # The get may have come ahead of the set; a call under way tells nothing.
        diary = [("call", 0, "set", 1), ("call", 1, "get", 0), ("told", 1, None), ("call", 1, "get", 0),
                 ("told", 1, 0)]
        self.assertEqual(sure_results(cell(2), 2, diary), [None, 0, 0])
        self.assertEqual(fillings(cell(2), 2, diary[:3]), [(0,), (1,)])
        self.assertEqual(sure_results(cell(2), 2, diary[:3]), [None, None])
        # The fillings stand in the order of the events, not of the calls.
        diary = [("call", 0, "test", 0), ("call", 1, "test", 0), ("told", 1, None), ("told", 0, None)]
        self.assertEqual(fillings(flag(), 2, diary), [(0, 1), (1, 0)])
        self.assertEqual(fillings(flag(), 2, diary[:2] + [("told", 1, 1), ("told", 0, None)]), [(0,)])
        self.assertEqual(sure_results(flag(), 2, diary[:2] + [("told", 1, 1), ("told", 0, None)]), [0, 1])

    def test_nothing_is_unknown(self):
        self.assertEqual(self.check(cell(2), 2, []), [()])
        history = [("call", 0, "get", 0), ("told", 0, 0)]
        self.assertEqual(self.check(cell(2), 2, history), [()])
        self.assertEqual(sure_results(cell(2), 2, history), [0])
        wrong = history + [("call", 1, "get", 0), ("told", 1, 1)]
        self.assertEqual(self.check(cell(2), 2, wrong), [])
        self.assertEqual(first_fault(cell(2), 2, wrong), 3)

    def test_the_first_fault(self):
        # A known result that cannot come counts when it is told, not when its call begins.
        diary = [("call", 0, "get", 0), ("call", 1, "get", 0), ("told", 1, None), ("told", 0, 1)]
        self.assertEqual(first_fault(cell(2), 2, diary), 3)
        with self.assertRaises(NoOrder):
            sure_results(cell(2), 2, diary)
        # A missing row: the fault comes when the call is told.
        diary = [("call", 0, "go", 1), ("call", 1, "ask", 0), ("told", 1, None), ("told", 0, None)]
        self.assertEqual(first_fault(lossy(), 2, diary), 3)
        self.assertEqual(self.check(lossy(), 2, diary), [])

    def test_many_fillings(self):
        any_result = Kind(1, 0, {"a": (1, 2, [[[(0, 0), (1, 0)]]])})
        three = Kind(1, 0, {"a": (1, 2, [[[(0, 0), (1, 0)]]]), "b": (1, 4, [[[(told, 0) for told in range(4)]]])})
        turn = [("call", 0, "a", 0), ("told", 0, None)]
        self.assertEqual(len(fillings(any_result, 1, turn * 7)), 128)
        with self.assertRaises(TooMany) as caught:
            fillings(any_result, 1, turn * 8)
        self.assertEqual(caught.exception.limit, 200)
        self.assertEqual(filling_count(any_result, 1, turn * 30), 2 ** 30)
        self.assertEqual(sure_results(any_result, 1, turn * 30), [None] * 30)
        self.assertIsNone(first_fault(any_result, 1, turn * 30))
        with self.assertRaises(TooMany):
            fillings(three, 1, turn * 6 + [("call", 0, "b", 0), ("told", 0, None)])

    def test_200_and_201(self):
        def tree(widths):
            """A kind that goes through its states, with so many answers in each of them."""
            rows = [[[(told, state + 1) for told in range(many)]] for state, many in enumerate(widths)] + [[[]]]
            return Kind(len(rows), 0, {"a": (1, 4, rows)})

        turn = [("call", 0, "a", 0), ("told", 0, None)]
        for widths, many in (((4, 4, 4, 3), 192), ((2, 3, 4, 4, 2), 192), ((4, 4, 4, 3, 1), 192), ((4, 4, 4, 4), 256),
                             ((3, 3, 3, 3, 3), 243)):
            diary = turn * len(widths)
            self.assertEqual(filling_count(tree(widths), 1, diary), many)
            if many <= 200:
                self.assertEqual(len(fillings(tree(widths), 1, diary)), many)
            else:
                self.assertRaises(TooMany, fillings, tree(widths), 1, diary)
        # 2 * 4 * (8 + 8 + 9) fillings, and perhaps one more by a result that leads to one way alone.
        for more, many in ((0, 200), (1, 201)):
            rows = [[(0, 1), (1, 1)] + [(2, 2)] * more, [(told, 3) for told in range(4)], [(0, 2)],
                    [(0, 4), (1, 4), (2, 5)], [(0, 6), (1, 6)], [(told, 7) for told in range(3)],
                    [(told, 6) for told in range(4)], [(told, 7) for told in range(3)]]
            kind = Kind(8, 0, {"a": (1, 4, [[row] for row in rows])})
            self.assertEqual(slow_count(kind, 1, turn * 5), many)
            self.assertEqual(filling_count(kind, 1, turn * 5), many)
            if more:
                self.assertRaises(TooMany, fillings, kind, 1, turn * 5)
            else:
                self.assertEqual(fillings(kind, 1, turn * 5), slow_fillings(kind, 1, turn * 5))

    def test_long_diaries(self):
        for kind, method in ((counter(3), "add"), (swap(2), "swap"), (choose(2), "choose"), (queue(2, 2), "put"),
                             (flag(), "test"), (cell(3), "get")):
            for sides in (1, 2, 3):
                diary = long_diary(kind, sides, method)
                self.assertEqual(len(diary), 60)
                count = filling_count(kind, sides, diary)
                self.assertEqual(count, slow_count(kind, sides, diary))
                self.assertIsNone(first_fault(kind, sides, diary))
                self.assertEqual(len(sure_results(kind, sides, diary)), sum(event[0] == "call" for event in diary))
                if count > 200:
                    self.assertRaises(TooMany, fillings, kind, sides, diary)
                else:
                    self.assertEqual(len(fillings(kind, sides, diary)), count)

    def test_long_drawn_diaries(self):
        rnd = random.Random(132)
        counts = set()
        for _ in range(60):
            kind = rnd.choice(some_kinds() + [random_kind(rnd, 3, 2, 2, 2)] * 2)
            sides = rnd.randint(1, 3)
            history = random_history(rnd, kind, sides, 60, 0)
            diary = [(*event[:2], None) if event[0] == "told" and rnd.random() < 0.8 else event for event in history]
            count = slow_count(kind, sides, diary)
            self.assertEqual(filling_count(kind, sides, diary), count)
            counts.add(count)
        self.assertGreater(max(counts), 10 ** 5)

    def test_calls_that_take_long(self):
        # Two calls that are under way all the time, and a third side that is told anything.
        rnd = random.Random(133)
        kind = Kind(8, 0, {"a": (2, 4, [[rnd.sample(list(product(range(4), range(8))), 3) for _ in range(2)]
                                       for _ in range(8)])})
        turn = [("call", 2, "a", 1), ("told", 2, None)]
        diary = [("call", 0, "a", 0), ("call", 1, "a", 1)] + turn * 28 + [("told", 0, None), ("told", 1, None)]
        self.assertGreater(filling_count(kind, 3, diary), 10 ** 6)
        self.assertEqual(sure_results(kind, 3, diary[:6]), slow_sure(kind, 3, diary[:6]))

    def test_wrong_sides(self):
        for function in FUNCTIONS:
            for sides in not_between(1, 3):
                for diary in ([], None, [None]):
                    with self.assertRaises(BadSides):
                        function(cell(2), sides, diary)

    def test_wrong_diaries(self):
        call = ("call", 0, "get", 0)
        for function in FUNCTIONS:
            def told(diary, sides=2):
                with self.assertRaises(BadHistory) as caught:
                    function(cell(2), sides, diary)
                return caught.exception.index

            for value in odd_values():
                if not isinstance(value, (list, tuple)):
                    self.assertEqual(told(value), -1)
                self.assertEqual(told([value]), 0)
                self.assertEqual(told([call, value, ("told", 0, None)]), 1)
                if value is not None and not (type(value) is int and value in (0, 1)):
                    self.assertEqual(told([call, ("told", 0, value)]), 1)
                if not (type(value) is int and value == 0):
                    self.assertEqual(told([call, ("told", value, None)]), 1)
            # A None where no call is under way, and in other places.
            self.assertEqual(told([("told", 0, None)]), 0)
            self.assertEqual(told([call, ("told", 1, None)]), 1)
            self.assertEqual(told([call, ("told", 0, None), ["told", 0, None]]), 2)
            self.assertEqual(told([call, ("told", 2, None)]), 1)
            for event in (("call", 0, "set", None), ("call", None, "get", 0), ("call", 0, None, 0), (None, 0, "get", 0),
                          ("told", None, 0), (None, 0, None), ("told", 0), ("told", 0, None, None), ("call", 0, None)):
                self.assertEqual(told([("call", 1, "get", 0), event]), 1)
            self.assertEqual(told([call, ("told", 0, None)] * 30 + [call]), -1)
            self.assertEqual(told([call, ("told", 0, None)] * 30 + [None]), -1)

    def test_what_is_passed_stays(self):
        diary = [["call", 0, "get", 0], ["told", 0, None]]
        for function in FUNCTIONS:
            told = function(cell(2), 1, diary)
            if isinstance(told, list):
                told.clear()
        self.assertEqual(diary, [["call", 0, "get", 0], ["told", 0, None]])
        self.assertEqual((fillings(cell(2), 1, diary), sure_results(cell(2), 1, diary)), ([(0,)], [0]))

    def test_fillings_are_explained(self):
        rnd = random.Random(134)
        for _ in range(60):
            kind = rnd.choice(some_kinds())
            history = random_history(rnd, kind, 2, 16, 0)
            diary = [(*event[:2], None) if event[0] == "told" and rnd.random() < 0.4 else event for event in history]
            if filling_count(kind, 2, diary) <= 200:
                for results in fillings(kind, 2, diary):
                    self.assertIsNone(fault(kind, 2, filled(diary, results)))


if __name__ == "__main__":
    unittest.main()
