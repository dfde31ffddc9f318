"""The names of the interface: where they are defined, and with which arguments."""

import ast
import importlib
import inspect
import pathlib
import unittest

from samples import W
from wayrows.rows import lot

FOLDER = pathlib.Path(__file__).resolve().parent.parent / "wayrows"

FUNCTIONS = {
    "webs": {
        "web_error": ("value",), "root": ("web",), "children": ("web", "kind"),
        "parents": ("web", "kind"), "links": ("web",), "mixings": ("web",),
        "is_mixing": ("web", "kind"), "beneath": ("web", "kind"), "is_binary": ("web",),
        "is_tree": ("web",), "road": ("web", "kind"), "leaf_of": ("web", "kind"),
    },
    "rows": {
        "row": ("web", "kind"), "lot": ("web",), "ways": ("web", "kind", "to"),
        "is_beneath": ("web", "kind", "to"),
    },
    "numbered": {
        "way_at": ("web", "kind", "to", "value"), "place_of": ("web", "value"),
    },
    "holders": {
        "holders": ("web", "leaf"), "kept": ("web", "kind"), "meeting": ("web", "some"),
        "fraction": ("web", "kind", "leaf"),
    },
    "alike": {
        "is_alike": ("one", "other"), "match": ("one", "other"), "paper": ("one", "other"),
        "distance": ("one", "other"), "nearest": ("one", "some"),
    },
    "checker": {"is_paper": ("one", "other", "value")},
    "forms": {
        "form": ("web",), "renamed": ("web", "names"), "under": ("web", "leaf", "other"),
        "beside": ("one", "other"),
    },
    "built": {"web_of": ("leaves", "value"), "parts": ("leaves", "value")},
}

CLASSES = {
    "errors": (
        "WebError", "OtherLeaves", "NoPaper", "NoWay", "TooMany", "NoWeb", "NoLink", "BadGraft",
        "BadWeb", "BadNames", "NoKind", "Full", "NothingDone", "NothingUndone", "NoVersion",
        "NoWatch", "BadText", "BadName"),
}

TREE = (3, ((0, 1), (2, 3)))
ARGUMENTS = {"value": W, "web": W, "kind": 5, "to": 1, "leaf": 1, "some": (0, 2), "one": W,
             "other": TREE, "names": (1, 2, 0), "leaves": 3}
# What functions need that can't do with the arguments above.
SPECIAL = {
    "way_at": {"value": 0},
    "place_of": {"value": (6, 4, 3, 1)},
    "nearest": {"some": (TREE, W)},
    "is_paper": {"value": ("row", (0, 1, 0), 2, 1)},
    "web_of": {"value": lot(W)},
    "parts": {"value": lot(W)},
}


def defined(module, sort):
    """The names that a def or a class at the top of the file defines."""
    tree = ast.parse((FOLDER / f"{module}.py").read_text(encoding="ascii"))
    return [row.name for row in tree.body if isinstance(row, sort)]


class TestInterface(unittest.TestCase):
    def test_functions_are_defined_in_their_file(self):
        for module, functions in FUNCTIONS.items():
            names = defined(module, ast.FunctionDef)
            for name in functions:
                self.assertIn(name, names)

    def test_classes_are_defined_in_their_file(self):
        for module, classes in CLASSES.items():
            names = defined(module, ast.ClassDef)
            for name in classes:
                self.assertIn(name, names)

    def test_functions_have_just_their_arguments(self):
        for module, functions in FUNCTIONS.items():
            file = importlib.import_module(f"wayrows.{module}")
            for name, arguments in functions.items():
                found = inspect.signature(getattr(file, name)).parameters.values()
                self.assertEqual(tuple(item.name for item in found), arguments, name)
                for item in found:
                    self.assertEqual(item.kind, item.POSITIONAL_OR_KEYWORD, name)
                    self.assertIs(item.default, item.empty, name)

    def test_arguments_by_position_and_by_name_in_any_order(self):
        for module, functions in FUNCTIONS.items():
            file = importlib.import_module(f"wayrows.{module}")
            for name, arguments in functions.items():
                function = getattr(file, name)
                values = {**ARGUMENTS, **SPECIAL.get(name, {})}
                given = [values[argument] for argument in arguments]
                expected = function(*given)
                named = dict(zip(arguments, given))
                turned = dict(reversed(list(named.items())))
                self.assertEqual(function(**named), expected, name)
                self.assertEqual(function(**turned), expected, name)
                for first in range(len(given)):
                    rest = {argument: named[argument] for argument in arguments[first:]}
                    self.assertEqual(function(*given[:first], **rest), expected, name)
                with self.assertRaises(TypeError):
                    function(*given, other=1)
                with self.assertRaises(TypeError):
                    function(*given[1:])


if __name__ == "__main__":
    unittest.main()
