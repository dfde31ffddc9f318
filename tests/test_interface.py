"""The names of the interface: where they are defined, and with which arguments."""

import ast
import copy
import importlib
import inspect
import pathlib
import unittest

from samples import W
from wayrows.garden import Garden
from wayrows.rows import lot

FOLDER = pathlib.Path(__file__).resolve().parent.parent / "wayrows"

FUNCTIONS = {
    "webs": {
        "web_error": ("value",), "root": ("web",), "children": ("web", "kind"),
        "parents": ("web", "kind"), "links": ("web",), "mixings": ("web",),
        "is_mixing": ("web", "kind"), "beneath": ("web", "kind"), "is_binary": ("web",),
        "is_tree": ("web",), "road": ("web", "kind"), "leaf_of": ("web", "kind"),
    },
    "rows": {
        "row": ("web", "kind"), "lot": ("web",), "ways": ("web", "kind", "to"),
        "is_beneath": ("web", "kind", "to"),
    },
    "numbered": {
        "way_at": ("web", "kind", "to", "value"), "place_of": ("web", "value"),
    },
    "holders": {
        "holders": ("web", "leaf"), "kept": ("web", "kind"), "meeting": ("web", "some"),
        "fraction": ("web", "kind", "leaf"),
    },
    "alike": {
        "is_alike": ("one", "other"), "match": ("one", "other"), "paper": ("one", "other"),
        "distance": ("one", "other"), "nearest": ("one", "some"),
    },
    "checker": {"is_paper": ("one", "other", "value")},
    "forms": {
        "form": ("web",), "renamed": ("web", "names"), "under": ("web", "leaf", "other"),
        "beside": ("one", "other"),
    },
    "built": {"web_of": ("leaves", "value"), "parts": ("leaves", "value")},
    "lost": {"fills": ("leaves", "value"), "spare": ("web",)},
    "trees": {
        "choices": ("web",), "tree": ("web", "choice"), "trees": ("web",),
        "tree_error": ("leaves", "value"), "shows": ("web", "value"), "how_often": ("web", "value"),
        "soft": ("web",), "hard": ("web",), "backed": ("web", "some"),
    },
    "edits": {
        "struck": ("web", "parent", "child"), "grafted": ("web", "begin", "end"), "spots": ("web",),
        "neighbours": ("web",),
    },
    "grown": {"all_webs": ("leaves", "many")},
    "votes": {
        "common": ("some",), "united": ("some",), "voted": ("some", "many"), "middle": ("some",),
        "apart": ("some",), "agreed": ("some", "many"),
    },
    "texts": {"web_text": ("web",), "read_web": ("value",)},
}

# The methods of Garden that have a name of their own, with their arguments, and the others.
METHODS = {
    "strike": ("parent", "child"), "graft": ("begin", "end"), "rename": ("names",), "undo": (),
    "redo": (), "since": ("value",), "watch": ("function",), "unwatch": ("number",), "twin": (),
}
SIGNS = ("__init__", "__len__", "__getitem__", "__contains__", "__iter__", "__eq__", "__str__",
         "web", "lot", "version")

CLASSES = {
    "errors": (
        "WebError", "OtherLeaves", "NoPaper", "NoWay", "TooMany", "NoWeb", "NoLink", "BadGraft",
        "BadWeb", "BadNames", "NoKind", "Full", "NothingDone", "NothingUndone", "NoVersion",
        "NoWatch", "BadText", "BadName"),
    "garden": ("Garden",),
}
BOUNDS = ("MAX_LEAVES", "MAX_INNER", "MAX_WEBS", "MAX_FILLED", "MAX_CHOICES", "MAX_DEEDS")

TREE = (3, ((0, 1), (2, 3)))
ARGUMENTS = {"value": W, "web": W, "kind": 5, "to": 1, "leaf": 1, "some": (0, 2), "one": W,
             "other": TREE, "names": (1, 2, 0), "leaves": 3, "choice": (1,), "parent": 5, "child": 3,
             "begin": ("over",), "end": ("in", 3), "many": 2}
# What functions need that can't do with the arguments above.
SPECIAL = {
    "way_at": {"value": 0},
    "place_of": {"value": (6, 4, 3, 1)},
    "nearest": {"some": (TREE, W)},
    "is_paper": {"value": ("row", (0, 1, 0), 2, 1)},
    "web_of": {"value": lot(W)},
    "parts": {"value": lot(W)},
    "fills": {"value": lot(W)[1:]},
    "tree_error": {"value": ((0, 1), (1, 2))},
    "shows": {"value": ((0, 1, 2), (1, 2))},
    "how_often": {"value": ((0, 1, 2), (1, 2))},
    "common": {"some": (TREE, W)},
    "united": {"some": (TREE, W)},
    "voted": {"some": (TREE, W, W)},
    "middle": {"some": (W, TREE, TREE)},
    "apart": {"some": (TREE, W, TREE)},
    "agreed": {"some": (TREE, W, W)},
    "read_web": {"value": "((#7,2),(0,(1)#7));"},
}


def defined(module, sort):
    """The names that a def or a class at the top of the file defines."""
    tree = ast.parse((FOLDER / f"{module}.py").read_text(encoding="ascii"))
    return [row.name for row in tree.body if isinstance(row, sort)]


class TestInterface(unittest.TestCase):
    def test_functions_are_defined_in_their_file(self):
        for module, functions in FUNCTIONS.items():
            names = defined(module, ast.FunctionDef)
            for name in functions:
                self.assertIn(name, names)

    def test_classes_are_defined_in_their_file(self):
        for module, classes in CLASSES.items():
            names = defined(module, ast.ClassDef)
            for name in classes:
                self.assertIn(name, names)

    def test_bounds_stand_in_their_file(self):
        tree = ast.parse((FOLDER / "bounds.py").read_text(encoding="ascii"))
        names = [target.id for row in tree.body if isinstance(row, ast.Assign) for target in row.targets]
        self.assertEqual(sorted(names), sorted(BOUNDS))

    def test_methods_are_defined_in_the_class_itself(self):
        tree = ast.parse((FOLDER / "garden.py").read_text(encoding="ascii"))
        body = [row for row in tree.body if isinstance(row, ast.ClassDef)][0].body
        told = {row.name: tuple(item.arg for item in row.args.args) for row in body
                if isinstance(row, ast.FunctionDef)}
        for name in SIGNS:
            self.assertIn(name, told)
        for name, arguments in METHODS.items():
            self.assertEqual(told[name], ("self",) + arguments)
        self.assertEqual(told["__init__"], ("self", "web"))

    def test_methods_by_position_and_by_name(self):
        values = {"parent": 5, "child": 3, "begin": ("over",), "end": ("in", 3), "names": (1, 0, 2),
                  "value": 0, "function": lambda garden, gone, come: None, "number": 0}
        for name, arguments in METHODS.items():
            given = [values[argument] for argument in arguments]
            named = dict(zip(arguments, given))
            turned = dict(reversed(list(named.items())))
            told = []
            for some, more in ((given, {}), ((), named), ((), turned)):
                made = Garden(web=W)
                made.rename(names=(2, 1, 0))
                made.rename((2, 1, 0))
                made.undo()
                if name == "unwatch":
                    made.watch(function=values["function"])
                answer = getattr(made, name)(*some, **more)
                told.append((answer, made.web, made.version))
            self.assertEqual(told[1:], told[:1] * 2, name)
            with self.assertRaises(TypeError):
                getattr(Garden(W), name)(*given, 1)
            with self.assertRaises(TypeError):
                getattr(Garden(W), name)(*given, other=1)
            if given:
                with self.assertRaises(TypeError):
                    getattr(Garden(W), name)(*given[1:])
        with self.assertRaises(TypeError):
            Garden()
        with self.assertRaises(TypeError):
            Garden(W, W)

    def test_functions_have_just_their_arguments(self):
        for module, functions in FUNCTIONS.items():
            file = importlib.import_module(f"wayrows.{module}")
            for name, arguments in functions.items():
                found = inspect.signature(getattr(file, name)).parameters.values()
                self.assertEqual(tuple(item.name for item in found), arguments, name)
                for item in found:
                    self.assertEqual(item.kind, item.POSITIONAL_OR_KEYWORD, name)
                    self.assertIs(item.default, item.empty, name)

    def test_arguments_by_position_and_by_name_in_any_order(self):
        for module, functions in FUNCTIONS.items():
            file = importlib.import_module(f"wayrows.{module}")
            for name, arguments in functions.items():
                function = getattr(file, name)
                values = {**ARGUMENTS, **SPECIAL.get(name, {})}
                given = [values[argument] for argument in arguments]
                kept = copy.deepcopy(given)
                expected = function(*given)
                named = dict(zip(arguments, given))
                turned = dict(reversed(list(named.items())))
                self.assertEqual(function(**named), expected, name)
                self.assertEqual(function(**turned), expected, name)
                for first in range(len(given)):
                    rest = {argument: named[argument] for argument in arguments[first:]}
                    self.assertEqual(function(*given[:first], **rest), expected, name)
                with self.assertRaises(TypeError):
                    function(*given, other=1)
                with self.assertRaises(TypeError):
                    function(*given[1:])
                self.assertEqual(repr(given), repr(kept), name)


if __name__ == "__main__":
    unittest.main()
