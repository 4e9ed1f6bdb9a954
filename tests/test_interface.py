"""The interface: each name is defined in its file, with its arguments by their names ([2.7])."""

import importlib
import inspect
import unittest

from towerup.kinds import Kind

FUNCTIONS = {
    "kinds": {"is_total": "(kind)", "is_single": "(kind)"},
    "shelf": {"cell": "(size, start=0)", "counter": "(size)", "flag": "()", "swap": "(size)", "choose": "(size)",
              "queue": "(size, room)", "pair": "(one, other)", "with_deal": "(kind, name, calls)"},
    "machines": {"reached": "(kind, calls)", "alike": "(one, other)"},
    "histories": {"under_way": "(kind, sides, history)", "calls_of": "(kind, sides, history)",
                  "quiet": "(kind, sides, history)"},
    "lots": {"first_lot": "(kind, sides)", "lot_behind": "(kind, sides, lot, event)",
             "lot": "(kind, sides, history)", "fault": "(kind, sides, history)",
             "tellable": "(kind, sides, history, side)", "states_at": "(kind, sides, history)"},
    "orders": {"order_count": "(kind, sides, history)", "first_order": "(kind, sides, history)",
               "sure_pairs": "(kind, sides, history)", "order_fault": "(kind, sides, history, order)"},
}
KIND_METHODS = {
    "__init__": "(self, states, start, methods)", "names": "(self)", "arguments": "(self, method)",
    "results": "(self, method)", "answers": "(self, state, method, argument)", "with_start": "(self, start)",
}


class Interface(unittest.TestCase):
    def test_functions(self):
        for file, functions in FUNCTIONS.items():
            module = importlib.import_module(f"towerup.{file}")
            for name, arguments in functions.items():
                with self.subTest(file=file, name=name):
                    function = getattr(module, name)
                    self.assertEqual(function.__module__, f"towerup.{file}")
                    self.assertEqual(str(inspect.signature(function)), arguments)

    def test_kind(self):
        self.assertEqual(Kind.__module__, "towerup.kinds")
        for name, arguments in KIND_METHODS.items():
            with self.subTest(name):
                self.assertEqual(str(inspect.signature(vars(Kind)[name])), arguments)
        self.assertIn("__eq__", vars(Kind))
        self.assertIn("__contains__", vars(Kind))

    def test_errors_stand_in_their_file(self):
        errors = importlib.import_module("towerup.errors")
        for name, value in vars(errors).items():
            if isinstance(value, type):
                self.assertEqual(value.__module__, "towerup.errors", name)


if __name__ == "__main__":
    unittest.main()
