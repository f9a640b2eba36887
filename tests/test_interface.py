"""The names of the interface: where each one is defined, and its arguments."""

import importlib
import inspect
import unittest

FUNCTIONS = {
    "boxes": {
        "spliced": ["rule", "film", "cut", "other", "place"], "cuts": ["rule", "film"], "places": ["rule", "film"],
    },
    "films": {
        "comes": ["box", "film"], "tree": ["box", "film"], "film_of": ["box", "told"], "splices": ["told"],
        "judge_tree": ["box", "film", "told"], "within": ["box", "most"],
    },
    "seams": {
        "seams": ["box", "film"], "tree_at": ["box", "film", "index", "at"], "reasons": ["box", "film"],
        "beyond": ["box", "most"],
    },
    "fewest": {"fewest": ["box", "film"], "fewest_with": ["box", "piece"], "fewest_long": ["box", "length"]},
    "tables": {
        "table": ["box"], "holds": ["told", "film"], "is_closed": ["box", "told"], "judge_table": ["box", "told"],
        "apart": ["one", "other"], "least": ["told"],
    },
    "questions": {
        "number": ["box", "length"], "number_rest": ["box", "length", "modulus"], "is_endless": ["box"],
        "how_many": ["box"], "shortest": ["box"], "longest": ["box"], "some_have": ["box", "piece"],
        "all_have": ["box", "piece"], "pieces": ["box", "length"], "beginnings": ["box", "length"],
        "endings": ["box", "length"], "beside": ["box"], "barred": ["box", "length"],
        "exchanged": ["box", "piece", "other"], "rank": ["box", "film"], "film_at": ["box", "index"],
    },
    "compare": {
        "alike": ["one", "other"], "first_unlike": ["one", "other"], "first_more": ["one", "other"],
        "needless_rules": ["box"], "needless_strips": ["box"], "least_boxes": ["box"], "brings": ["box", "rule"],
    },
    "joints": {
        "is_joint": ["box", "piece"], "torn": ["box", "piece"], "joints": ["box", "length"], "looks_back": ["box"],
    },
    "origins": {
        "broken": ["told", "rule"], "kept_rules": ["told", "size"], "greatest_box": ["told", "length", "size"],
        "unmade": ["told", "length", "size"],
    },
    "guesses": {
        "fitting": ["box", "menu", "seen", "unseen"], "telling": ["box", "menu", "seen", "unseen"],
    },
    "texts": {"show_box": ["box"], "show_tree": ["told"]},
    "readings": {"read_box": ["text"], "read_tree": ["text"]},
}
BOX = {
    "__init__": ["self", "strips", "rules"], "pictures": ["self"], "with_strip": ["self", "strip"],
    "with_rule": ["self", "rule"], "without_strip": ["self", "index"], "without_rule": ["self", "index"],
    "__add__": ["self", "other"], "__len__": ["self"], "__eq__": ["self", "other"],
}
DESK = {
    "__init__": ["self", "box"], "__call__": ["self", "index", "film", "cut", "other", "place"], "films": ["self"],
    "tree_of": ["self", "film"], "now": ["self"], "follow": ["self", "told"], "lies": ["self", "film"], "can": ["self"],
    "undo": ["self"], "__len__": ["self"], "__eq__": ["self", "other"],
}


class Interface(unittest.TestCase):
    def check(self, thing, module, arguments):
        self.assertTrue(inspect.isfunction(thing))
        self.assertEqual(thing.__module__, module)
        parameters = list(inspect.signature(thing).parameters.values())
        self.assertEqual([parameter.name for parameter in parameters], arguments)
        for parameter in parameters:
            self.assertEqual((parameter.kind, parameter.default),
                             (inspect.Parameter.POSITIONAL_OR_KEYWORD, inspect.Parameter.empty))

    def test_functions(self):
        for name, functions in FUNCTIONS.items():
            module = importlib.import_module("splicedfilms." + name)
            for function, arguments in functions.items():
                self.check(getattr(module, function), module.__name__, arguments)

    def check_class(self, thing, module, methods):
        self.assertEqual(thing.__module__, module.__name__)
        for method, arguments in methods.items():
            self.check(vars(thing)[method], module.__name__, arguments)

    def test_the_class_of_boxes(self):
        module = importlib.import_module("splicedfilms.boxes")
        self.check_class(module.Box, module, BOX)
        for name in ("strips", "rules"):
            self.assertIsInstance(vars(module.Box)[name], property)

    def test_the_class_of_desks(self):
        module = importlib.import_module("splicedfilms.desks")
        self.check_class(module.Desk, module, DESK)


if __name__ == "__main__":
    unittest.main()
