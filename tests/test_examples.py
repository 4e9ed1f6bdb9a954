"""The examples of section 22 of DOC.md about the shelf, machines, lots and orders."""

import doctest
import unittest

SESSIONS = (
    """
    >>> from towerup.shelf import cell, queue
    >>> cell(2).names(), queue(2, 2).answers(3, "take", 0)
    (['get', 'set'], ((1, 1),))
    """,
    """
    >>> from towerup.machines import alike, reached
    >>> from towerup.shelf import cell
    >>> reached(cell(2), [("set", 1, 0), ("get", 0, 1)]), alike(cell(2), cell(2, 1))
    ((1,), [('get', 0, 0)])
    """,
    """
    >>> from towerup.lots import fault, lot
    >>> from towerup.shelf import cell
    >>> lot(cell(2), 1, [("call", 0, "set", 1)])
    ((0, ((1, 'set', 1),)), (1, ((2, 0),)))
    """,
    """
    >>> from towerup.lots import fault
    >>> from towerup.shelf import cell
    >>> fault(cell(2), 2, [("call", 0, "set", 1), ("told", 0, 0), ("call", 1, "get", 0), ("told", 1, 0)])
    3
    """,
    """
    >>> from towerup.orders import first_order, order_count
    >>> from towerup.shelf import cell
    >>> history = [("call", 0, "set", 1), ("call", 1, "get", 0), ("told", 1, 0)]
    >>> order_count(cell(2), 2, history), first_order(cell(2), 2, history)
    (2, (1,))
    """,
)


class Examples(unittest.TestCase):
    def test_sessions(self):
        parser, runner = doctest.DocTestParser(), doctest.DocTestRunner(verbose=False)
        for number, session in enumerate(SESSIONS):
            test = parser.get_doctest(session, {}, f"session {number}", None, 0)
            self.assertGreater(len(test.examples), 1)
            with self.subTest(number):
                self.assertEqual(runner.run(test).failed, 0)


if __name__ == "__main__":
    unittest.main()
