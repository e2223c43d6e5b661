"""The errors of the whole program."""

import unittest

from gatesread import errors

PLAIN_NAMES = ("InvalidValues", "NoSuchThing", "TooLarge", "InvalidPlacement", "BrokenMasks")
OTHER_NAMES = ("InvalidNetlist", "InvalidSheet", "NotLiftable")


class ErrorsTest(unittest.TestCase):
    def test_base_class(self):
        self.assertEqual(errors.GatesError.__bases__, (ValueError,))

    def test_each_error_is_a_direct_subclass(self):
        for name in PLAIN_NAMES + OTHER_NAMES:
            with self.subTest(name):
                self.assertEqual(getattr(errors, name).__bases__, (errors.GatesError,))

    def test_plain_errors_can_be_created(self):
        for name in PLAIN_NAMES:
            with self.subTest(name):
                with self.assertRaises(errors.GatesError) as caught:
                    raise getattr(errors, name)("why")
                self.assertEqual(type(caught.exception).__name__, name)

    def test_invalid_netlist(self):
        error = errors.InvalidNetlist("ring", 17)
        self.assertEqual((error.kind, error.place), ("ring", 17))
        error = errors.InvalidNetlist(kind="name", place=0)
        self.assertEqual((error.kind, error.place), ("name", 0))

    def test_invalid_sheet(self):
        self.assertEqual(errors.InvalidSheet(3).line, 3)

    def test_not_liftable(self):
        self.assertEqual(errors.NotLiftable(5).node, 5)
        self.assertIsNone(errors.NotLiftable(None).node)


if __name__ == "__main__":
    unittest.main()
