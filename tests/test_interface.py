"""The interface: names, arguments, and the files in which they are defined."""

import importlib
import inspect
import unittest

FUNCTIONS = {
    "boxes": {
        "is_box": ("value",),
        "meets": ("one", "other"),
        "inside": ("one", "other"),
        "hull_of": ("boxes",),
        "common_box": ("one", "other"),
        "points_in": ("box",),
        "gap_between": ("one", "other"),
        "pieces": ("box", "holes"),
        "covered": ("boxes",),
    },
    "moments": {
        "fraction_of": ("top", "bottom"),
        "compare_moments": ("one", "other"),
        "place_at": ("box", "speed", "time"),
        "meeting_span": ("one", "one_speed", "other", "other_speed", "start", "end"),
    },
    "items": {
        "is_item": ("value",),
        "bounds_of": ("items",),
        "joined": ("one", "other"),
        "widest": ("axes",),
        "is_possible": ("bounds", "box", "speed"),
        "reach": ("bounds",),
        "shared": ("one", "other"),
    },
    "splits": {
        "best_split": ("entries", "least"),
        "best_kid": ("entries", "bounds"),
    },
    "questions": {
        "is_question": ("axes", "value"),
        "plain_answer": ("items", "question"),
    },
}


class FunctionsTest(unittest.TestCase):
    def test_defined_in_their_file(self):
        for place, functions in FUNCTIONS.items():
            module = importlib.import_module(f"boundstead.{place}")
            for name in functions:
                self.assertTrue(inspect.isfunction(getattr(module, name)), name)
                self.assertEqual(getattr(module, name).__module__, f"boundstead.{place}", name)

    def test_arguments_by_position_or_by_name(self):
        for place, functions in FUNCTIONS.items():
            module = importlib.import_module(f"boundstead.{place}")
            for name, words in functions.items():
                parameters = inspect.signature(getattr(module, name)).parameters.values()
                self.assertEqual(tuple(each.name for each in parameters), words, name)
                for each in parameters:
                    self.assertEqual(each.kind, each.POSITIONAL_OR_KEYWORD, name)
                    self.assertIs(each.default, each.empty, name)


if __name__ == "__main__":
    unittest.main()
