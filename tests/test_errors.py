"""The bounds and the errors."""

import copy
import unittest

from samples import ANY_VALUES, W
from wayrows import bounds, errors

BOUNDS = {"MAX_LEAVES": 8, "MAX_INNER": 20, "MAX_WEBS": 12, "MAX_FILLED": 9,
          "MAX_CHOICES": 300, "MAX_DEEDS": 30}

ARGUMENTS = {
    "OtherLeaves": (), "NoPaper": ("word", "number"), "NoWay": ("value",), "TooMany": (),
    "NoWeb": ("word", "row"), "NoLink": ("parent", "child"), "BadGraft": ("word",),
    "BadWeb": ("error",), "BadNames": ("names",), "NoKind": ("kind",), "Full": (),
    "NothingDone": (), "NothingUndone": (), "NoVersion": ("value",), "NoWatch": ("number",),
    "BadText": ("place",), "BadName": ("number",),
}


class TestBounds(unittest.TestCase):
    def test_values(self):
        for name, value in BOUNDS.items():
            self.assertIs(type(getattr(bounds, name)), int)
            self.assertEqual(getattr(bounds, name), value)


class TestErrors(unittest.TestCase):
    def check(self, name, made, values):
        """An error of this class alone that keeps just these very values."""
        for other in ARGUMENTS:
            self.assertEqual(isinstance(made, getattr(errors, other)), other == name)
        self.assertIsInstance(made, errors.WebError)
        self.assertIsInstance(made, ValueError)
        self.assertEqual(tuple(vars(made)), ARGUMENTS[name])
        for argument, value in zip(ARGUMENTS[name], values):
            self.assertIs(getattr(made, argument), value)

    def test_seventeen(self):
        self.assertEqual(len(ARGUMENTS), 17)

    def test_all_stand_directly_under_web_error(self):
        self.assertEqual(errors.WebError.__bases__, (ValueError,))
        for name in ARGUMENTS:
            self.assertEqual(getattr(errors, name).__bases__, (errors.WebError,))
            self.assertEqual(getattr(errors, name).__name__, name)

    def test_by_position_and_by_name(self):
        for name, arguments in ARGUMENTS.items():
            made_by = getattr(errors, name)
            for at, value in enumerate(ANY_VALUES):
                values = (value, ANY_VALUES[at - 1])[:len(arguments)]
                named = dict(zip(arguments, values))
                turned = dict(reversed(list(named.items())))
                self.check(name, made_by(*values), values)
                self.check(name, made_by(**named), values)
                self.check(name, made_by(**turned), values)
                if len(values) == 2:
                    self.check(name, made_by(values[0], **{arguments[1]: values[1]}), values)

    def test_values_are_not_changed(self):
        for name, arguments in ARGUMENTS.items():
            values = [[1, {"a": [W]}], {"b": (True, None)}][:len(arguments)]
            before = copy.deepcopy(values)
            getattr(errors, name)(*values)
            self.assertEqual(values, before)

    def test_an_error_may_be_kept_by_an_error(self):
        inner = errors.BadText(3)
        self.assertIs(errors.NoKind(inner).kind, inner)

    def test_errors_do_not_share_values(self):
        first = errors.NoPaper("link", 3)
        errors.NoPaper("size", -1)
        self.assertEqual((first.word, first.number), ("link", 3))

    def test_raised_and_caught(self):
        for name, arguments in ARGUMENTS.items():
            values = (W, None)[:len(arguments)]
            for caught_as in (getattr(errors, name), errors.WebError, ValueError):
                with self.assertRaises(caught_as) as held:
                    raise getattr(errors, name)(*values)
                self.check(name, held.exception, values)

    def test_wrong_arguments(self):
        for name, arguments in ARGUMENTS.items():
            if arguments:
                with self.assertRaises(TypeError):
                    getattr(errors, name)()
                with self.assertRaises(TypeError):
                    getattr(errors, name)(*arguments, 0)
                with self.assertRaises(TypeError):
                    getattr(errors, name)(*arguments[1:], other=0)


if __name__ == "__main__":
    unittest.main()
