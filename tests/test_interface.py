"""The interface: each name exists in its module and takes its arguments by their places."""

import importlib
import inspect
import unittest

FUNCTIONS = {
    "fractions": {"is_fraction": 1, "fraction": 2, "plus": 2, "minus": 2, "times": 2, "less": 2},
    "costs": {"is_cost": 1, "cost_at": 2, "later_due": 2, "moved_cost": 2},
    "works": {"is_work": 1, "is_works": 1, "all_length": 1, "same_coming": 1, "with_length": 3, "with_coming": 3},
    "wishes": {"is_wishes": 2, "ring": 2, "behind": 3, "ahead": 3, "last_ones": 3, "is_closed": 3, "is_forest": 2},
    "orders": {"is_order": 3, "run": 2},
    "plans": {"is_plan": 3, "ends_of": 2, "by_ends": 2},
    "asking": {"costs_of": 2, "worth": 3},
    "heads": {"heads": 2, "raised": 4},
    "setchecker": {"bound_of": 3, "lets_set": 4},
    "blocks": {"stretches": 2, "stretches_of": 3},
    "breaking": {"greatest_plan": 2, "due_plan": 2},
    "lastfirst": {"greatest_order": 2},
    "latetable": {"table_of": 1, "in_time": 2},
    "latechecker": {"lets_table": 2},
    "lateorder": {"late_order": 1, "put_out": 1},
    "leastleft": {"turned": 2, "done_by": 2, "left_plan": 1, "ends_paper": 1},
    "endchecker": {"lets_ends": 2},
    "ratios": {"ratio_order": 1, "pair_sum": 1},
    "pricechecker": {"gain": 2, "priced": 3},
    "joining": {"joined": 2, "forest_order": 2},
    "swapping": {"swap_gain": 3, "settled": 3},
    "settable": {"set_table": 3},
    "setjudge": {"lets_settable": 4},
    "bests": {"best": 3, "how_many": 3, "bests_told": 3, "kth": 4, "is_best": 4},
    "casechecker": {"lets_cases": 5},
    "casing": {"whole_best": 3},
    "days": {"best_worth": 4, "due_worth": 6, "length_worth": 6, "coming_worth": 6},
    "texts": {"shown_works": 2, "shown_plan": 1},
    "readings": {"read_works": 1, "read_plan": 1},
}
METHODS = {
    ("bench", "Bench"): {"put": 3, "wish": 2, "unwish": 2, "take": 1, "back": 0, "names": 0, "works": 0, "wishes": 0, "best": 1,
                         "plan": 0, "many": 1, "later": 3},
    ("desk", "Desk"): {"say": 1},
}


class Interface(unittest.TestCase):

    def takes(self, action, many):
        """The action takes so many arguments by their places, and no others."""
        inspect.signature(action).bind(*range(many))
        for other in ([many - 1] if many else []) + [many + 1]:
            with self.assertRaises(TypeError):
                inspect.signature(action).bind(*range(other))

    def test_functions(self):
        for module, actions in FUNCTIONS.items():
            for name, many in actions.items():
                self.takes(getattr(importlib.import_module(f"benchdays.{module}"), name), many)

    def test_classes(self):
        for (module, name), methods in METHODS.items():
            made = getattr(importlib.import_module(f"benchdays.{module}"), name)()
            for method, many in methods.items():
                self.takes(getattr(made, method), many)


if __name__ == "__main__":
    unittest.main()
