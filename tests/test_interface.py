"""The interface: names, arguments, and the files in which they are defined."""

import importlib
import inspect
import unittest

FUNCTIONS = {
    "boxes": {
        "is_box": ("value",),
        "meets": ("one", "other"),
        "inside": ("one", "other"),
        "hull_of": ("boxes",),
        "common_box": ("one", "other"),
        "points_in": ("box",),
        "gap_between": ("one", "other"),
        "pieces": ("box", "holes"),
        "covered": ("boxes",),
    },
    "moments": {
        "fraction_of": ("top", "bottom"),
        "compare_moments": ("one", "other"),
        "place_at": ("box", "speed", "time"),
        "meeting_span": ("one", "one_speed", "other", "other_speed", "start", "end"),
    },
    "items": {
        "is_item": ("value",),
        "bounds_of": ("items",),
        "joined": ("one", "other"),
        "widest": ("axes",),
        "is_possible": ("bounds", "box", "speed"),
        "reach": ("bounds",),
        "shared": ("one", "other"),
    },
    "splits": {
        "best_split": ("entries", "least"),
        "best_kid": ("entries", "bounds"),
    },
    "questions": {
        "is_question": ("axes", "value"),
        "plain_answer": ("items", "question"),
    },
    "asking": {
        "answer": ("tree", "question"),
        "pages_read": ("tree", "question"),
        "ranked": ("tree", "box", "time"),
        "free_space": ("tree", "box", "time"),
    },
    "cuts": {
        "cut": ("tree", "question"),
    },
    "checking": {
        "cut_holds": ("tree", "question", "told", "text"),
    },
    "lots": {
        "needed": ("tree", "question"),
        "settles": ("tree", "question", "lot"),
        "twin_against": ("tree", "question", "lot"),
        "is_twin": ("tree", "lot", "twin"),
        "twin_items": ("tree", "twin"),
    },
    "joins": {
        "join_pairs": ("one", "other", "time"),
        "join_settles": ("one", "other", "time", "lot"),
        "join_twin": ("one", "other", "time", "lot"),
        "join_fewest": ("one", "other", "time"),
        "join_bound": ("one", "other", "time"),
    },
    "covers": {
        "join_bound_holds": ("one", "other", "time", "bound"),
    },
    "stores": {
        "items_in": ("text",),
    },
    "language": {
        "parse": ("text",),
        "printed": ("statement",),
    },
    "console": {
        "replayed": ("store", "log"),
    },
}
# For each method the arguments that may be passed by position, and those by name alone with their defaults.
METHODS = {
    "trees": {
        "Tree": {
            "__init__": (("self", "axes"), {"most": 8}),
            "__len__": (("self",), {}),
            "__contains__": (("self", "value"), {}),
            "__eq__": (("self", "other"), {}),
            "put": (("self", "key", "box"), {"speed": None}),
            "drop": (("self", "key"), {}),
            "turn": (("self", "key", "time"), {"speed": inspect.Parameter.empty}),
            "item": (("self", "key"), {}),
            "all_items": (("self",), {}),
            "pages": (("self",), {}),
            "known": (("self", "number"), {}),
            "directory": (("self",), {}),
            "copy": (("self",), {}),
            "from_pages": (("axes", "pages"), {"most": 8}),
            "packed": (("axes", "items"), {"most": 8}),
        },
    },
    "disks": {
        "Disk": {
            "__init__": (("self",), {}),
            "write": (("self", "cell", "text"), {}),
            "read": (("self", "cell"), {}),
            "sync": (("self",), {}),
            "pending": (("self",), {}),
            "limit": (("self", "steps"), {}),
            "restart": (("self", "fates"), {}),
            "reads": (("self",), {}),
            "writes": (("self",), {}),
            "forget": (("self",), {}),
        },
    },
    "stores": {
        "Store": {
            "created": (("disk", "axes"), {"most": 8}),
            "opened": (("disk",), {}),
            "put": (("self", "key", "box"), {"speed": None}),
            "drop": (("self", "key"), {}),
            "turn": (("self", "key", "time"), {"speed": inspect.Parameter.empty}),
            "tree": (("self",), {}),
            "ask": (("self", "question"), {}),
            "changed": (("self",), {}),
            "commit": (("self",), {}),
            "rollback": (("self",), {}),
            "cell": (("self", "number"), {}),
            "view": (("self",), {}),
        },
        "View": {
            "tree": (("self",), {}),
            "ask": (("self", "question"), {}),
            "cell": (("self", "number"), {}),
            "close": (("self",), {}),
        },
    },
    "console": {
        "Console": {
            "__init__": (("self", "store"), {}),
            "run": (("self", "line"), {}),
            "log": (("self",), {}),
        },
    },
}
PROPERTIES = {"Tree": ("axes", "most", "root")}


class FunctionsTest(unittest.TestCase):
    def test_defined_in_their_file(self):
        for place, functions in FUNCTIONS.items():
            module = importlib.import_module(f"boundstead.{place}")
            for name in functions:
                self.assertTrue(inspect.isfunction(getattr(module, name)), name)
                self.assertEqual(getattr(module, name).__module__, f"boundstead.{place}", name)

    def test_arguments_by_position_or_by_name(self):
        for place, functions in FUNCTIONS.items():
            module = importlib.import_module(f"boundstead.{place}")
            for name, words in functions.items():
                parameters = inspect.signature(getattr(module, name)).parameters.values()
                self.assertEqual(tuple(each.name for each in parameters), words, name)
                for each in parameters:
                    self.assertEqual(each.kind, each.POSITIONAL_OR_KEYWORD, name)
                    self.assertIs(each.default, each.empty, name)


class MethodsTest(unittest.TestCase):
    def test_defined_in_the_class_and_its_file(self):
        for place, classes in METHODS.items():
            module = importlib.import_module(f"boundstead.{place}")
            for name, methods in classes.items():
                made = getattr(module, name)
                self.assertTrue(inspect.isclass(made))
                self.assertEqual(made.__module__, f"boundstead.{place}")
                for each in (*methods, *PROPERTIES.get(name, ())):
                    self.assertIn(each, vars(made))
                for each in PROPERTIES.get(name, ()):
                    self.assertIsInstance(vars(made)[each], property)

    def test_arguments(self):
        for place, classes in METHODS.items():
            module = importlib.import_module(f"boundstead.{place}")
            for name, methods in classes.items():
                for method, (words, named) in methods.items():
                    parameters = inspect.signature(getattr(getattr(module, name), method)).parameters.values()
                    by_place = tuple(each.name for each in parameters if each.kind == each.POSITIONAL_OR_KEYWORD)
                    by_name = {each.name: each.default for each in parameters if each.kind == each.KEYWORD_ONLY}
                    self.assertEqual((by_place, by_name), (words, named), method)
                    self.assertEqual(len(parameters), len(words) + len(named))


if __name__ == "__main__":
    unittest.main()
