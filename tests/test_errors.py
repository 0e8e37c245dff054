"""fleethide.errors, as the interface tells it."""

import unittest

from fleethide import errors

NAMES = ["NoHiding", "NoNumber", "TooMany", "NoCell", "NoShot", "NothingLeft", "NoCounts", "Over", "NoText", "NoRow"]


class ErrorsTest(unittest.TestCase):
    def test_all_are_refusals(self):
        self.assertTrue(issubclass(errors.HideError, ValueError))
        for name in NAMES:
            self.assertTrue(issubclass(getattr(errors, name), errors.HideError), name)

    def test_none_stands_under_another(self):
        for name in NAMES:
            for other in NAMES:
                under = issubclass(getattr(errors, name), getattr(errors, other))
                self.assertEqual(under, name == other, (name, other))

    def test_each_has_a_cell(self):
        for name in NAMES + ["HideError"]:
            kind = getattr(errors, name)
            self.assertIsNone(kind("words").cell)
            self.assertIsNone(kind().cell)
            self.assertEqual(kind("words", (3, 4)).cell, (3, 4))
            self.assertEqual(str(kind("words", (3, 4))), "words")


if __name__ == "__main__":
    unittest.main()
