"""The names of the interface: where they are defined, and with which arguments."""

import ast
import importlib
import inspect
import pathlib
import unittest

from samples import W

FOLDER = pathlib.Path(__file__).resolve().parent.parent / "wayrows"

FUNCTIONS = {
    "webs": {
        "web_error": ("value",), "root": ("web",), "children": ("web", "kind"),
        "parents": ("web", "kind"), "links": ("web",), "mixings": ("web",),
        "is_mixing": ("web", "kind"), "beneath": ("web", "kind"), "is_binary": ("web",),
        "is_tree": ("web",), "road": ("web", "kind"), "leaf_of": ("web", "kind"),
    },
}

CLASSES = {
    "errors": (
        "WebError", "OtherLeaves", "NoPaper", "NoWay", "TooMany", "NoWeb", "NoLink", "BadGraft",
        "BadWeb", "BadNames", "NoKind", "Full", "NothingDone", "NothingUndone", "NoVersion",
        "NoWatch", "BadText", "BadName"),
}

ARGUMENTS = {"value": W, "web": W, "kind": 5}


def defined(module, sort):
    """The names that a def or a class at the top of the file defines."""
    tree = ast.parse((FOLDER / f"{module}.py").read_text(encoding="ascii"))
    return [row.name for row in tree.body if isinstance(row, sort)]


class TestInterface(unittest.TestCase):
    def test_functions_are_defined_in_their_file(self):
        for module, functions in FUNCTIONS.items():
            names = defined(module, ast.FunctionDef)
            for name in functions:
                self.assertIn(name, names)

    def test_classes_are_defined_in_their_file(self):
        for module, classes in CLASSES.items():
            names = defined(module, ast.ClassDef)
            for name in classes:
                self.assertIn(name, names)

    def test_functions_have_just_their_arguments(self):
        for module, functions in FUNCTIONS.items():
            file = importlib.import_module(f"wayrows.{module}")
            for name, arguments in functions.items():
                found = inspect.signature(getattr(file, name)).parameters.values()
                self.assertEqual(tuple(item.name for item in found), arguments, name)
                for item in found:
                    self.assertEqual(item.kind, item.POSITIONAL_OR_KEYWORD, name)
                    self.assertIs(item.default, item.empty, name)

    def test_arguments_by_position_and_by_name_in_any_order(self):
        for module, functions in FUNCTIONS.items():
            file = importlib.import_module(f"wayrows.{module}")
            for name, arguments in functions.items():
                function = getattr(file, name)
                given = [ARGUMENTS[argument] for argument in arguments]
                expected = function(*given)
                named = dict(zip(arguments, given))
                turned = dict(reversed(list(named.items())))
                self.assertEqual(function(**named), expected, name)
                self.assertEqual(function(**turned), expected, name)
                if len(given) == 2:
                    self.assertEqual(function(given[0], **{arguments[1]: given[1]}), expected)
                with self.assertRaises(TypeError):
                    function(*given, other=1)
                with self.assertRaises(TypeError):
                    function(*given[1:])


if __name__ == "__main__":
    unittest.main()
