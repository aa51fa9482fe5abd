"""What several test cases ask in the same way."""

import copy
import unittest

from quietharm import errors

NAMES = ("BadKeep", "BadPlan", "BadBlock", "BadState", "BadDeed", "NotNow", "BadHistory", "BadWish", "TooLarge",
         "BadPrices", "NothingDone", "BadText", "BadShelf", "BadKind")
UNTOLD = object()


class Case(unittest.TestCase):
    def assert_refused(self, kind, ask, *told, part=UNTOLD, index=UNTOLD, row=UNTOLD, **more):
        """That a call raises an error of this kind and of no other documented one, with this attribute."""
        with self.assertRaises(errors.HarmError) as caught:
            ask(*told, **more)
        error = caught.exception
        self.assertEqual([name for name in NAMES if isinstance(error, getattr(errors, name))], [kind.__name__])
        self.assertIsInstance(error, ValueError)
        for name, want in (("part", part), ("index", index), ("row", row)):
            if want is not UNTOLD:
                self.assertEqual(getattr(error, name), want)
                self.assertNotIsInstance(getattr(error, name), bool)

    def assert_equality(self, first, second, want):
        """That both are equal or not, whichever is asked, and that `!=` is the opposite."""
        self.assertIs(first == second, want)
        self.assertIs(second == first, want)
        self.assertIs(first != second, not want)
        self.assertIs(second != first, not want)

    def assert_unchanged(self, ask, *told, **more):
        """What a call gives, after seeing that neither it nor a change of what it gave changes anything."""
        before = copy.deepcopy((told, more))
        found = ask(*told, **more)
        self.assertEqual((told, more), before)
        kept = copy.deepcopy(found)
        spoil(found)
        self.assertEqual(ask(*told, **more), kept)
        self.assertEqual((told, more), before)
        return kept


def spoil(thing):
    """Change a list, a dict, or an object with such, also within."""
    if isinstance(thing, (list, tuple)):
        for part in thing:
            spoil(part)
    if isinstance(thing, dict):
        spoil(list(thing.values()))
    if isinstance(thing, (list, dict)):
        thing.clear()
    elif hasattr(thing, "shows"):
        spoil(list(vars(thing).values()))


def without(told, key):
    """A dict without one of its keys."""
    return {own: told[own] for own in told if own != key}


def turned(told):
    """A dict in the other order."""
    return {key: told[key] for key in reversed(list(told))}
