"""The interface as a whole: every name is there, in its module, and takes so many arguments by their places."""

import importlib
import inspect
import unittest

FUNCTIONS = {
    "sheets": {"is_sheet": 1, "is_begun": 2, "is_choosing": 2, "is_kept": 3, "worth": 2},
    "fractions": {"lowest": 2, "plus": 2, "times": 2, "is_less": 2},
    "means": {"mean": 2, "kept_mean": 3},
    "chosen": {"means_of": 2, "never_falls": 2, "chosen": 1, "most": 1, "least": 1},
    "shares": {"are_shares": 2, "mean_by": 2, "ways_by": 3, "rounded": 2},
    "webs": {"is_web": 1, "sheet_of": 2},
    "sides": {"parted": 3, "sides_by": 2, "are_settled": 3, "settled": 3},
    "apart": {"chosen_by": 2, "mean_of": 2, "order_by": 1},
    "boards": {"is_board": 1, "squares": 2, "signs_by": 1, "breaks": 3},
    "families": {"is_even": 3, "family_mean": 2, "best_of": 2, "twos": 1},
    "texts": {"show_fraction": 1, "show_sheet": 1, "read_sheet": 1},
    "settled": {"is_settled": 2, "settle": 2},
    "weights": {"weight_of": 2, "signs_by_weight": 1, "is_safe": 2, "least_safe": 1},
    "ins": {"mean_left": 3, "ins_by": 2, "pruned": 2},
    "hits": {"is_book": 1, "mean_missed": 3, "draws_by": 2, "enough": 1},
    "best": {"best_sides": 2, "greatest_apart": 1, "fewest_hits": 1},
}

# How many arguments a class takes, and each of its methods behind its own object.
CLASSES = {
    ("chooser", "Chooser", 1): {
        "put": 1, "drop": 1, "choose": 2, "let": 1, "sheet": 0, "chosen": 0, "mean": 0, "means": 1, "finish": 0,
    },
    ("desk", "Desk", 0): {"say": 1},
}


def module_of(name):
    return importlib.import_module("meanchoice." + name)


class Interface(unittest.TestCase):
    def check_takes(self, thing, many):
        """That so many arguments can be handed in by their places, and no fewer."""
        signature = inspect.signature(thing)
        signature.bind(*range(many))
        if many:
            with self.assertRaises(TypeError):
                signature.bind(*range(many - 1))

    def test_functions(self):
        for name, functions in FUNCTIONS.items():
            module = module_of(name)
            for function, many in functions.items():
                self.assertEqual(getattr(module, function).__module__, module.__name__)
                self.check_takes(getattr(module, function), many)

    def test_classes(self):
        for (name, made, many), methods in CLASSES.items():
            one = getattr(module_of(name), made)
            self.assertEqual(one.__module__, "meanchoice." + name)
            self.check_takes(one, many)
            for method, arguments in methods.items():
                self.assertIn(method, vars(one))
                self.check_takes(vars(one)[method], arguments + 1)


if __name__ == "__main__":
    unittest.main()
