"""Point 29: the error classes."""

import unittest

from fillorder import errors

NAMES = (
    "InvalidName", "InvalidCap", "InvalidLevel", "InvalidFloor", "InvalidAmount", "InvalidText",
    "InvalidEnvelopes", "InvalidPlace", "InvalidDeed", "UnknownEnvelope", "NotEnough",
)


class TestErrors(unittest.TestCase):
    def test_base_class(self):
        self.assertEqual(errors.FillError.__bases__, (ValueError,))

    def test_direct_subclasses(self):
        for name in NAMES:
            with self.subTest(name=name):
                self.assertEqual(getattr(errors, name).__bases__, (errors.FillError,))

    def test_each_name_is_a_class_of_its_own(self):
        self.assertEqual(len({getattr(errors, name) for name in NAMES}), len(NAMES))

    def test_defined_in_this_file_under_this_name(self):
        for name in ("FillError",) + NAMES:
            with self.subTest(name=name):
                self.assertEqual(getattr(errors, name).__name__, name)
                self.assertEqual(getattr(errors, name).__module__, "fillorder.errors")

    def test_each_takes_a_message(self):
        for name in ("FillError",) + NAMES:
            with self.subTest(name=name):
                self.assertEqual(str(getattr(errors, name)("too much")), "too much")

    def test_can_be_raised_and_caught_by_the_base(self):
        for name in NAMES:
            with self.subTest(name=name), self.assertRaisesRegex(errors.FillError, "^why$"):
                raise getattr(errors, name)("why")


if __name__ == "__main__":
    unittest.main()
