"""Graphs: groups of numbers that lead to each other, ways, and all to which numbers lead."""

import random
import unittest

from towerup.graphs import groups_of, way_to
from towerup.shadows import reached_sets


def slow_reach(edges):
    """For each number the set of the numbers to which it leads, itself too."""
    reach = [{number} for number in range(len(edges))]
    while True:
        further = [own.union(*[reach[behind] for behind in own]).union(*[edges[behind] for behind in own])
                   for own in reach]
        if further == reach:
            return reach
        reach = further


def random_graph(rnd):
    many = rnd.randint(0, 12)
    degree = rnd.choice((0, 1, 1, 2, 3))
    return [[rnd.randrange(many) for _ in range(rnd.randint(0, degree))] for _ in range(many)]


class Graphs(unittest.TestCase):
    def test_groups(self):
        rnd = random.Random(171)
        for _ in range(400):
            edges = random_graph(rnd)
            before = [list(row) for row in edges]
            reach = slow_reach(edges)
            groups = groups_of(edges)
            self.assertEqual(edges, before)
            self.assertEqual(sorted(number for group in groups for number in group), list(range(len(edges))))
            for at, group in enumerate(groups):
                for number in group:
                    self.assertEqual(set(group), {each for each in reach[number] if number in reach[each]})
                    # All to which the group leads stand in it or ahead of it.
                    ahead = {each for other in groups[:at + 1] for each in other}
                    self.assertLessEqual(reach[number], ahead)

    def test_reached_sets(self):
        rnd = random.Random(172)
        for _ in range(300):
            edges = random_graph(rnd)
            self.assertEqual(reached_sets(edges), [sum(1 << each for each in own) for own in slow_reach(edges)])

    def test_long_ways(self):
        many = 4000
        edges = [[number + 1] for number in range(many - 1)] + [[]]
        self.assertEqual(groups_of(edges), [[number] for number in reversed(range(many))])
        edges[-1] = [0]
        self.assertEqual([sorted(group) for group in groups_of(edges)], [list(range(many))])
        came = {number + 1: (number, str(number)) for number in range(many)} | {0: None}
        self.assertEqual(way_to(came, many), [str(number) for number in range(many)])
        self.assertEqual(way_to(came, 0), [])


if __name__ == "__main__":
    unittest.main()
