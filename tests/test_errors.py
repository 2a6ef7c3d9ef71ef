"""The classes of errors: what they bear, and under which classes they stand."""

import inspect
import unittest

from latestshake import errors
from latestshake.errors import ShakeError

ATTRIBUTES = {
    "path": "InvalidScene",
    "place": "InvalidText",
    "index": "InvalidLot InvalidSides InvalidCorners",
    "given": "InvalidNumber InvalidFraction InvalidPoint InvalidCount InvalidWord InvalidPlace InvalidLead InvalidName"
             " InvalidReading InvalidSide InvalidWindow InvalidDrawing InvalidLine SamePlace TooMany Unknown InUse"
             " Taken",
}
BARE = "NoStation NothingToUndo NothingToRedo"
KEPT = [None, True, 0, -1, 10 ** 5000, "", "text", (), (0, 0, 2), [1, 2], {"a": [1]}, object(), ValueError("x"), int]


class Errors(unittest.TestCase):
    def bearing(self):
        for attribute, names in ATTRIBUTES.items():
            for name in names.split():
                yield getattr(errors, name), attribute

    def test_attribute_is_kept_by_position_and_by_name(self):
        for error, attribute in self.bearing():
            for value in KEPT:
                self.assertIs(getattr(error(value), attribute), value)
                self.assertIs(getattr(error(**{attribute: value}), attribute), value)

    def test_only_its_own_attribute(self):
        for error, attribute in self.bearing():
            self.assertEqual(vars(error(1)), {attribute: 1})
            for arguments in (), (1, 2):
                with self.assertRaises(TypeError):
                    error(*arguments)
            for other in set(ATTRIBUTES) - {attribute}:
                with self.assertRaises(TypeError):
                    error(**{other: 1})

    def test_attribute_is_set_by_the_class_itself(self):
        for error, _ in self.bearing():
            self.assertIn("__init__", vars(error))

    def test_without_attributes(self):
        for name in BARE.split():
            self.assertEqual(vars(getattr(errors, name)()), {})
        self.assertEqual(vars(ShakeError()), {})

    def test_one_base(self):
        self.assertEqual(ShakeError.__bases__, (ValueError,))
        names = " ".join(list(ATTRIBUTES.values()) + [BARE]).split()
        self.assertEqual(len(names), 26)
        for name in names:
            self.assertEqual(getattr(errors, name).__bases__, (ShakeError,))
            self.assertEqual(getattr(errors, name).__module__, "latestshake.errors")
        classes = [name for name, value in vars(errors).items() if inspect.isclass(value)]
        self.assertEqual(sorted(classes), sorted(names + ["ShakeError"]))

    def test_raised_and_caught(self):
        for error, attribute in self.bearing():
            for above in (error, ShakeError, ValueError):
                with self.assertRaises(above) as caught:
                    raise error(**{attribute: (1, 2)})
                self.assertEqual(getattr(caught.exception, attribute), (1, 2))


if __name__ == "__main__":
    unittest.main()
