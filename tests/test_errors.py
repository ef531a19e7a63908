"""The error classes of the interface."""

import unittest

from reticle import errors

REGION = ((0, 0, 1, 1),)

# The classes that are made with values, the values, and the fields that hold them.
WITH_FIELDS = {
    "UnknownCell": (("bar",), ("name",)),
    "TooLarge": ((10000,), ("limit",)),
    "InvalidText": ((3,), ("line",)),
    "UnknownShape": ((-7,), ("number",)),
    "InvalidRule": ((2,), ("index",)),
    "BadChannel": ((REGION,), ("region",)),
    "Shorted": ((["a", "b"],), ("names",)),
    "Split": (("a",), ("name",)),
    "InvalidLoop": ((0,), ("index",)),
    "NoWire": ((REGION,), ("barrier",)),
    "UnknownNet": ((9,), ("net",)),
    "UnknownName": (("y",), ("name",)),
    "InvalidNetRule": ((1,), ("index",)),
    "Crowded": ((1, 4), ("first", "second")),
}

PLAIN = [
    "InvalidCell", "InvalidLibrary", "NothingToUndo", "NothingToRedo", "UnknownMark", "InvalidCircuit",
    "InvalidDeck", "InvalidBlock", "InvalidSchematic", "NotPackable",
]

ALL = sorted(WITH_FIELDS) + PLAIN


class Errors(unittest.TestCase):
    def test_base_classes(self):
        self.assertIs(errors.ReticleError.__base__, ValueError)
        for name in ALL:
            self.assertIs(getattr(errors, name).__base__, errors.ReticleError, name)

    def test_none_is_a_subclass_of_another(self):
        for name in ALL:
            for other in ALL:
                self.assertEqual(issubclass(getattr(errors, name), getattr(errors, other)), name == other)

    def test_fields(self):
        for name, (values, fields) in WITH_FIELDS.items():
            error = getattr(errors, name)(*values)
            self.assertEqual(tuple(getattr(error, field) for field in fields), values, name)

    def test_lists_are_copied(self):
        names = ["a", "b"]
        error = errors.Shorted(names)
        names.append("c")
        self.assertEqual(error.names, ["a", "b"])

    def test_without_fields(self):
        for name in PLAIN:
            self.assertIsInstance(getattr(errors, name)(), errors.ReticleError)
            self.assertEqual(str(getattr(errors, name)("why")), "why")

    def test_raised_and_caught(self):
        for name in ALL:
            values = WITH_FIELDS.get(name, ((), ()))[0]
            with self.assertRaises(errors.ReticleError) as caught:
                raise getattr(errors, name)(*values)
            self.assertIs(type(caught.exception), getattr(errors, name))

    def test_each_class_is_defined_there(self):
        for name in ALL + ["ReticleError"]:
            self.assertEqual(getattr(errors, name).__module__, "reticle.errors")


if __name__ == "__main__":
    unittest.main()
