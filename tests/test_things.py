"""Things: [10.1] and [10.2]."""

import unittest
from itertools import combinations

from tests.helper import lossy, not_below, not_between, odd_values, some_kinds
from towerup.errors import BadThing
from towerup.kinds import Kind
from towerup.shelf import cell, counter
from towerup.things import Atomic, Weak

NAMES = ["a", "x", "get", "zzzzzzzz", "abcdefgh", "arg", "plus"]


def not_names():
    return [value for value in odd_values() if not (isinstance(value, str) and value in ("get", "set", "call", "told",
                                                                                         "getgetge"))]


class Things(unittest.TestCase):
    def part(self, *values, **named):
        """The part of the BadThing that is raised."""
        with self.assertRaises(BadThing) as caught:
            values[0](*values[1:], **named)
        return caught.exception.part

    def test_atomic(self):
        for name in NAMES:
            for kind in some_kinds():
                for thing in (Atomic(name, kind), Atomic(kind=kind, name=name)):
                    self.assertEqual(thing.name, name)
                    self.assertIs(thing.kind, kind)

    def test_wrong_atomic(self):
        kinds = [value for value in odd_values() if not isinstance(value, Kind)]
        for name in not_names():
            self.assertEqual(self.part(Atomic, name, cell(2)), "name")
            self.assertEqual(self.part(Atomic, name, None), "name")
        for kind in kinds + [Kind]:
            self.assertEqual(self.part(Atomic, "x", kind), "kind")
            self.assertEqual(self.part(Atomic, kind=kind, name="A"), "name")

    def test_weak(self):
        for name in NAMES:
            for word in ("safe", "regular"):
                for size in (2, 3, 4):
                    for start in range(size):
                        for owner in (0, 1, 2):
                            for thing in (Weak(name, word, size, start, owner=owner),
                                          Weak(owner=owner, start=start, size=size, word=word, name=name)):
                                told = (thing.name, thing.word, thing.size, thing.start, thing.owner)
                                self.assertEqual(told, (name, word, size, start, owner))
                                self.assertEqual(thing.kind, cell(size, start))

    def test_weak_alone(self):
        thing = Weak("x", "regular", 3)
        self.assertEqual((thing.start, thing.owner, thing.kind), (0, 0, cell(3)))
        with self.assertRaises(TypeError):
            Weak("x", "regular", 3, 0, 0)

    def test_wrong_weak(self):
        right = {"name": "x", "word": "safe", "size": 2, "start": 1, "owner": 2}
        words = [value for value in odd_values() if value not in ("safe", "regular")]
        wrong = {"name": not_names(), "word": words + ["Safe", "safe ", "regula", "atomic"], "size": not_between(2, 4),
                 "start": not_below(2), "owner": not_below(3)}
        for part, values in wrong.items():
            for value in values:
                self.assertEqual(self.part(Weak, **{**right, part: value}), part)
        for first, second in combinations(list(right), 2):
            for value in (None, True, "A", [], 9, -1):
                for other in wrong[second]:
                    self.assertEqual(self.part(Weak, **{**right, first: value, second: other}), first)
        self.assertEqual(self.part(Weak, "x", "safe", 3, 3), "start")
        self.assertEqual(self.part(Weak, "x", "safe", 4, 1, owner=3), "owner")

    def test_equal(self):
        def make():
            return [Atomic("x", cell(2)), Atomic("y", cell(2)), Atomic("x", cell(2, 1)), Atomic("x", cell(3)),
                    Atomic("x", counter(2)), Atomic("x", lossy()), Weak("x", "safe", 2), Weak("y", "safe", 2),
                    Weak("x", "regular", 2), Weak("x", "safe", 3), Weak("x", "safe", 2, 1),
                    Weak("x", "safe", 2, owner=1), Weak("x", "safe", 2, owner=2)]
        for at, one in enumerate(make()):
            for place, other in enumerate(make()):
                self.assertIs(one == other, at == place)
                self.assertIs(one != other, at != place)
        odd = [value for value in odd_values() if not isinstance(value, (Atomic, Weak))]
        for value in odd + [cell(2)]:
            for one in make():
                self.assertFalse(one == value)
                self.assertFalse(value == one)
                self.assertTrue(one != value)


if __name__ == "__main__":
    unittest.main()
