"""The plain tests of values, whatever the values are."""

import unittest

from builders import EqualToAll

from quietharm.checks import is_between, is_group, is_integer, is_one_of

ODD_THINGS = (None, True, False, "1", b"1", (), (1,), [], [1], {}, {1: 1}, object(), len, EqualToAll())


class ChecksTest(unittest.TestCase):
    def test_integers(self):
        self.assertTrue(all(is_integer(value) for value in (0, 1, -1, 10 ** 40)))
        self.assertFalse(any(is_integer(value) for value in ODD_THINGS))

    def test_between(self):
        self.assertEqual([value for value in range(-3, 5) if is_between(value, 0, 2)], [0, 1, 2])
        self.assertFalse(any(is_between(value, 0, 2) for value in ODD_THINGS))

    def test_one_of(self):
        self.assertTrue(is_one_of("a", ("a", "b")))
        self.assertFalse(is_one_of("c", ("a", "b")))
        self.assertFalse(any(is_one_of(value, ("a", "b")) for value in ODD_THINGS))

    def test_groups(self):
        self.assertTrue(is_group((), 0) and is_group((1, 2), 2))
        self.assertFalse(is_group((1, 2), 3) or is_group([1, 2], 2) or is_group("ab", 2))
        self.assertFalse(any(is_group(value, 2) for value in ODD_THINGS))


if __name__ == "__main__":
    unittest.main()
