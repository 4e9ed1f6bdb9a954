"""The interface: each name is defined in its file, with its arguments by their names ([2.7])."""

import importlib
import inspect
import unittest


FUNCTIONS = {
    "kinds": {"is_total": "(kind)", "is_single": "(kind)"},
    "shelf": {"cell": "(size, start=0)", "counter": "(size)", "flag": "()", "swap": "(size)", "choose": "(size)",
              "queue": "(size, room)", "pair": "(one, other)", "with_deal": "(kind, name, calls)"},
    "machines": {"reached": "(kind, calls)", "alike": "(one, other)"},
    "histories": {"under_way": "(kind, sides, history)", "calls_of": "(kind, sides, history)",
                  "quiet": "(kind, sides, history)"},
    "lots": {"first_lot": "(kind, sides)", "lot_behind": "(kind, sides, lot, event)",
             "lot": "(kind, sides, history)", "fault": "(kind, sides, history)",
             "tellable": "(kind, sides, history, side)", "states_at": "(kind, sides, history)"},
    "orders": {"order_count": "(kind, sides, history)", "first_order": "(kind, sides, history)",
               "sure_pairs": "(kind, sides, history)", "order_fault": "(kind, sides, history, order)"},
    "contracts": {"free": "(kind, sides)", "only": "(kind, rows)", "first_breach": "(contract, history)",
                  "looser": "(one, other)", "both": "(one, other)"},
    "houses": {"plain": "(kind, contract)"},
    "steps": {"initial": "(house)", "moves": "(house, state)", "wrongs": "(house, state)", "event_of": "(step)"},
    "runs": {"run": "(house, steps)"},
    "verdicts": {"breaking": "(house, *, limit=2000)", "broken_at": "(house, steps)",
                 "standings": "(house, *, limit=2000)", "closed_fault": "(house, rows)",
                 "sizes": "(house, *, limit=2000)"},
    "shown": {"run_of": "(house, history, *, limit=2000)", "shows": "(house, history, *, limit=2000)",
              "within": "(one, other, *, limit=2000)", "parted": "(one, other, *, limit=2000)"},
    "towers": {"composed": "(outer, name, inner, *, limit=2000)", "stacked": "(outer, rows, *, limit=2000)",
               "layers": "(outer, rows, *, limit=2000)", "tower_breaking": "(outer, rows, *, limit=2000)"},
    "waits": {"longest": "(house, side, *, limit=2000)", "alone": "(house, side, *, limit=2000)",
              "endless": "(house, side, *, limit=2000)", "stalled": "(house, *, limit=2000)",
              "lasso_fault": "(house, side, lasso)"},
    "repairs": {"right_choices": "(house, options, *, limit=2000)", "least_choices": "(house, options, *, limit=2000)",
                "spare_places": "(house, *, limit=2000)", "lets": "(house, *, limit=2000)"},
    "diaries": {"fillings": "(kind, sides, diary)", "filling_count": "(kind, sides, diary)",
                "sure_results": "(kind, sides, diary)", "first_fault": "(kind, sides, diary)"},
    "texts": {"kind_text": "(kind)", "read_kind": "(text)", "history_text": "(kind, sides, history)",
              "read_history": "(kind, sides, text)"},
}
EQUAL = {"__eq__": "(self, other)"}
CLASSES = {
    "kinds": {"Kind": {
        "__init__": "(self, states, start, methods)", "names": "(self)", "arguments": "(self, method)",
        "results": "(self, method)", "answers": "(self, state, method, argument)", "with_start": "(self, start)",
        "__contains__": "(self, method)", **EQUAL}},
    "contracts": {"Contract": {
        "__init__": "(self, kind, rules)", "methods": "(self, side, mode)", "rules": "(self)",
        "after": "(self, side, mode, method, result)", **EQUAL}},
    "things": {
        "Atomic": {"__init__": "(self, name, kind)", **EQUAL},
        "Weak": {"__init__": "(self, name, word, size, start=0, *, owner=0)", **EQUAL}},
    "programs": {"Side": {
        "__init__": "(self, store, methods)", "names": "(self)", "block": "(self, method)", "walk": "(self, method)",
        "with_block": "(self, method, block)", "without": "(self, method, place)", **EQUAL}},
    "houses": {"House": {
        "__init__": "(self, kind, things, contract, sides)", "thing": "(self, name)",
        "with_things": "(self, things)", "with_contract": "(self, contract)",
        "with_side": "(self, side, program)", "__contains__": "(self, name)", **EQUAL}},
    "runs": {
        "Running": {"__init__": "(self, house)", "choices": "(self)", "can": "(self, step)", "step": "(self, step)",
                    "back": "(self)", "record": "(self)", "wander": "(self, numbers)", "__len__": "(self)"},
        "Record": {}},
    "live": {"Live": {
        "__init__": "(self, house)", "step": "(self, step)", "lot": "(self)", "events": "(self)", "back": "(self)",
        "rehearsal": "(self)", "asked": "(self, side)", "__len__": "(self)", "__iadd__": "(self, other)",
        "__enter__": "(self)", "__exit__": "(self, kind, value, trace)"}},
}


class Interface(unittest.TestCase):
    def test_functions(self):
        for file, functions in FUNCTIONS.items():
            module = importlib.import_module(f"towerup.{file}")
            for name, arguments in functions.items():
                with self.subTest(file=file, name=name):
                    function = getattr(module, name)
                    self.assertEqual(function.__module__, f"towerup.{file}")
                    self.assertEqual(str(inspect.signature(function)), arguments)

    def test_classes(self):
        for file, classes in CLASSES.items():
            module = importlib.import_module(f"towerup.{file}")
            for name, methods in classes.items():
                made = getattr(module, name)
                self.assertEqual(made.__module__, f"towerup.{file}")
                for method, arguments in methods.items():
                    with self.subTest(name=name, method=method):
                        self.assertEqual(str(inspect.signature(vars(made)[method])), arguments)

    def test_errors_stand_in_their_file(self):
        errors = importlib.import_module("towerup.errors")
        for name, value in vars(errors).items():
            if isinstance(value, type):
                self.assertEqual(value.__module__, "towerup.errors", name)


if __name__ == "__main__":
    unittest.main()
