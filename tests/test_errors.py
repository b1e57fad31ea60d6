"""The error classes: base classes, arguments, attributes (interface, stage 1)."""

import unittest

from sharerules import errors
from sharerules.errors import ShareError
from values import deep_values

ATTRIBUTES = {
    "BadRules": "value",
    "RefusingRing": "ring",
    "BadRow": "value",
    "BadQuestion": "value",
    "BadVersion": "value",
    "BadText": "value",
    "BadCommand": "command",
    "TakenRow": "row",
    "UnknownRow": "row",
    "TooMany": "count",
    "NotPlain": "place",
    "NotSingle": "place",
    "NotAlike": "place",
    "NotSteady": "place",
    "BadGuard": "number",
}


class TestErrors(unittest.TestCase):
    def each(self):
        for name, attribute in ATTRIBUTES.items():
            yield getattr(errors, name), attribute

    def test_share_error_is_a_value_error(self):
        self.assertEqual(ShareError.__bases__, (ValueError,))

    def test_the_others_are_direct_subclasses(self):
        for made, _ in self.each():
            self.assertEqual(made.__bases__, (ShareError,))
            self.assertEqual(made.__module__, "sharerules.errors")
            self.assertIn("__init__", vars(made))

    def test_there_are_no_other_classes(self):
        found = [name for name, value in vars(errors).items() if isinstance(value, type)]
        self.assertEqual(sorted(found), sorted([*ATTRIBUTES, "ShareError"]))

    def test_the_attribute_is_the_very_value(self):
        for made, attribute in self.each():
            for value in ([1, [2]], {"a": []}, ("a", []), "text", 3, 0, None, True, False, (), [], ""):
                self.assertIs(getattr(made(value), attribute), value)
                self.assertIs(getattr(made(**{attribute: value}), attribute), value)

    def test_nothing_else_is_kept(self):
        for made, attribute in self.each():
            self.assertEqual(list(vars(made([]))), [attribute])

    def test_the_value_stays_as_it_is(self):
        for made, attribute in self.each():
            value = {"a": [1, (2, [3])]}
            error = made(value)
            self.assertEqual(value, {"a": [1, (2, [3])]})
            value["b"] = 4
            self.assertEqual(getattr(error, attribute), {"a": [1, (2, [3])], "b": 4})

    def test_deep_values_are_kept_and_the_message_is_a_text(self):
        deep = deep_values()
        for made, attribute in self.each():
            for value in deep:
                error = made(value)
                self.assertIs(getattr(error, attribute), value)
                self.assertIsInstance(str(error), str)

    def test_one_argument_is_needed_and_no_more(self):
        for made, attribute in self.each():
            for arguments in ((), (1, 2)):
                with self.assertRaises(TypeError):
                    made(*arguments)
            with self.assertRaises(TypeError):
                made(**{attribute + "s": 1})

    def test_they_can_be_raised_and_caught(self):
        for made, attribute in self.each():
            value = [made]
            for caught in (made, ShareError, ValueError):
                with self.assertRaises(caught) as context:
                    raise made(value)
                self.assertIs(getattr(context.exception, attribute), value)

    def test_they_are_not_caught_as_each_other(self):
        for made, _ in self.each():
            for name in ATTRIBUTES:
                other = getattr(errors, name)
                self.assertEqual(issubclass(made, other), made is other)


if __name__ == "__main__":
    unittest.main()
