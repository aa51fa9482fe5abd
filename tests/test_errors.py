"""The errors: all directly under HarmError, which is a ValueError; and their attributes."""

import unittest

from quietharm import errors

PLAIN = ("BadBlock", "BadState", "BadDeed", "NotNow", "BadWish", "TooLarge", "BadPrices", "NothingDone", "BadShelf",
         "BadKind")
WITH_ATTRIBUTE = {"BadKeep": "part", "BadPlan": "part", "BadHistory": "index", "BadText": "row"}


class ErrorsTest(unittest.TestCase):
    def test_harm_error_is_a_value_error(self):
        self.assertEqual(errors.HarmError.__bases__, (ValueError,))

    def test_all_fourteen_are_directly_under_it(self):
        names = sorted(PLAIN + tuple(WITH_ATTRIBUTE))
        self.assertEqual(len(names), 14)
        self.assertEqual(sorted(kind.__name__ for kind in errors.HarmError.__subclasses__()), names)
        for name in names:
            with self.subTest(name=name):
                kind = getattr(errors, name)
                self.assertEqual(kind.__bases__, (errors.HarmError,))
                self.assertEqual(kind.__module__, "quietharm.errors")

    def test_attributes(self):
        for name, attribute in WITH_ATTRIBUTE.items():
            for value in ("SHELVES", 3, 0, None):
                with self.subTest(name=name, value=value):
                    self.assertIs(getattr(getattr(errors, name)(value), attribute), value)

    def test_messages(self):
        for name in PLAIN:
            self.assertEqual(str(getattr(errors, name)("why")), "why")
        for name in WITH_ATTRIBUTE:
            self.assertEqual(str(getattr(errors, name)("LIMIT")), "LIMIT")


if __name__ == "__main__":
    unittest.main()
