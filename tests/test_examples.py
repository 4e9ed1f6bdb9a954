"""The examples of section 22 of DOC.md."""

import doctest
import unittest

SESSIONS = (
    """
    >>> from towerup.shelf import cell, queue
    >>> cell(2).names(), queue(2, 2).answers(3, "take", 0)
    (['get', 'set'], ((1, 1),))
    """,
    """
    >>> from towerup.machines import alike, reached
    >>> from towerup.shelf import cell
    >>> reached(cell(2), [("set", 1, 0), ("get", 0, 1)]), alike(cell(2), cell(2, 1))
    ((1,), [('get', 0, 0)])
    """,
    """
    >>> from towerup.lots import fault, lot
    >>> from towerup.shelf import cell
    >>> lot(cell(2), 1, [("call", 0, "set", 1)])
    ((0, ((1, 'set', 1),)), (1, ((2, 0),)))
    """,
    """
    >>> from towerup.lots import fault
    >>> from towerup.shelf import cell
    >>> fault(cell(2), 2, [("call", 0, "set", 1), ("told", 0, 0), ("call", 1, "get", 0), ("told", 1, 0)])
    3
    """,
    """
    >>> from towerup.orders import first_order, order_count
    >>> from towerup.shelf import cell
    >>> history = [("call", 0, "set", 1), ("call", 1, "get", 0), ("told", 1, 0)]
    >>> order_count(cell(2), 2, history), first_order(cell(2), 2, history)
    (2, (1,))
    """,
    """
    >>> from towerup.contracts import free, looser, only
    >>> from towerup.shelf import flag
    >>> free(flag(), 2).methods(1, 0), looser(free(flag(), 1), only(flag(), [["test"]]))
    (['clear', 'test'], (0, [], 'clear'))
    """,
    """
    >>> from towerup.diaries import sure_results
    >>> from towerup.shelf import cell
    >>> sure_results(cell(2), 2, [("call", 0, "set", 1), ("told", 0, None), ("call", 1, "get", 0), ("told", 1, None)])
    [0, 1]
    """,
    r"""
    >>> from towerup.shelf import flag
    >>> from towerup.texts import kind_text
    >>> kind_text(flag())
    'kind 2 0\nmethod clear 1 1\n0 0 0/0\n1 0 0/0\nmethod test 1 2\n0 0 0/1\n1 0 1/1'
    """,
)
# The house that counts by a cell, which the sessions below use.
HOUSE = """
    >>> from towerup.contracts import only
    >>> from towerup.houses import House
    >>> from towerup.programs import Side
    >>> from towerup.shelf import cell, counter
    >>> from towerup.things import Atomic
    >>> block = [("call", "x", "c", "get", 0), ("call", "", "c", "set", ("plus", "x", 1)), ("return", "x")]
    >>> side = Side({"x": (2, 0)}, {"add": block})
    >>> house = House(counter(2), [Atomic("c", cell(2))], only(counter(2), [["add"], ["add"]]), [side, side])
    """
WITH_HOUSE = (
    """
    >>> from towerup.verdicts import breaking, broken_at
    >>> run = breaking(house)
    >>> len(run), broken_at(house, run), run[-1]
    (8, ('told', 3), (1, 'told', '', 0))
    """,
    """
    >>> from towerup.houses import plain
    >>> from towerup.shown import within
    >>> within(house, plain(house.kind, house.contract))
    [('call', 0, 'add', 0), ('call', 1, 'add', 0), ('told', 0, 0), ('told', 1, 0)]
    """,
    """
    >>> from towerup.waits import alone, longest
    >>> longest(house, 0), alone(house, 0)
    (4, 3)
    """,
    """
    >>> from towerup.errors import NoCompose
    >>> from towerup.houses import plain
    >>> from towerup.towers import composed
    >>> try:
    ...     composed(plain(house.kind, house.contract), "x", house)
    ... except NoCompose as error:
    ...     error.why
    'lacks'
    """,
)


class Examples(unittest.TestCase):
    def test_sessions(self):
        parser, runner = doctest.DocTestParser(), doctest.DocTestRunner(verbose=False)
        for number, session in enumerate(SESSIONS + tuple(HOUSE + session for session in WITH_HOUSE)):
            test = parser.get_doctest(session, {}, f"session {number}", None, 0)
            self.assertGreater(len(test.examples), 1)
            with self.subTest(number):
                self.assertEqual(runner.run(test).failed, 0)


if __name__ == "__main__":
    unittest.main()
