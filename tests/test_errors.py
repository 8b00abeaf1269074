"""The interface of holetubs.errors."""

import unittest

from holetubs import errors

TOLD = ("NoTubs", "NoRain", "NoName", "NoHeight", "NoHole", "NoHours")
ASKED = ("Plugged", "NotPlugged", "NothingLeft")


class TestErrors(unittest.TestCase):
    def test_families(self):
        self.assertEqual(errors.TubError.__bases__, (ValueError,))
        self.assertEqual(errors.ToldError.__bases__, (errors.TubError,))
        self.assertEqual(errors.AskedError.__bases__, (errors.TubError,))

    def test_each_straight_under_its_family(self):
        for names, family in ((TOLD, errors.ToldError), (ASKED, errors.AskedError)):
            for name in names:
                with self.subTest(name):
                    self.assertEqual(getattr(errors, name).__bases__, (family,))

    def test_each_made_of_a_text(self):
        for name in ("TubError", "ToldError", "AskedError") + TOLD + ASKED:
            with self.subTest(name):
                kind = getattr(errors, name)
                self.assertEqual(kind.__module__, "holetubs.errors")
                self.assertEqual(str(kind("so it is")), "so it is")
                with self.assertRaises(kind):
                    raise kind("so it is")


if __name__ == "__main__":
    unittest.main()
