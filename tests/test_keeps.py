"""Promise 2, keeps: what a keep is, its operators, and which part of it is wrong."""

import itertools
import unittest

from builders import EqualToAll

from quietharm.errors import BadKeep
from quietharm.keeps import Keep, Plan

WORDS = ("astray", "late", "lost", "torn", "worn")
NO_WORDS = (None, True, 0, 7, (), ("lost",), ["lost"], {"lost": 1}, {"lost"}, b"lost", object(), len, EqualToAll())
OTHER_WORDS = ("", "Lost", "lost ", "los", "done", "gone", "lostworn")
WRONG_NUMBERS = (None, True, False, "1", b"1", (1,), [1], {}, object(), EqualToAll())
WRONG_HARMS = (None, True, 0, "lost", "", [], ["lost"], {"lost": 1}, {"lost"}, ("torn", "lost"), ("lost", "lost"),
               ("late", "lost", "late"), ("lost", True), (True,), (None,), (0, "lost"), ("gone",), ("lost", "gone"),
               ("done",), ("Lost",), ("",), (("lost",),), ("lost", []), (b"lost",), ("worn", "late"),
               EqualToAll(), ("lost", EqualToAll()), (EqualToAll(),) * 4)


def sets_of(words):
    return [some for size in range(len(words) + 1) for some in itertools.combinations(words, size)]


class KeepTest(unittest.TestCase):
    def assert_part(self, part, make, *told, **named):
        with self.subTest(part=part, told=told, named=named):
            with self.assertRaises(BadKeep) as caught:
                make(*told, **named)
            self.assertEqual(caught.exception.part, part)

    def test_all_keeps(self):
        for shelves, blocks, most in itertools.product((1, 2, 3), (1, 2), (0, 1, 2)):
            for harms in sets_of(WORDS if blocks == 2 else WORDS[1:]):
                keep = Keep(shelves, blocks, harms, most=most)
                self.assertEqual((keep.shelves, keep.blocks, keep.harms, keep.most), (shelves, blocks, harms, most))
                self.assertEqual(len(keep), shelves)
                self.assertEqual([word for word in WORDS if word in keep], list(harms))

    def test_defaults_and_keywords(self):
        keep = Keep(2, 1)
        self.assertEqual((keep.harms, keep.most), ((), 1))
        self.assertEqual(Keep(blocks=1, shelves=2, most=1, harms=()), keep)
        with self.assertRaises(TypeError):
            Keep(2, 1, (), 1)
        with self.assertRaises(TypeError):
            Keep.full(2, 1, 1)

    def test_example_of_the_interface(self):
        keep, plan = Keep(2, 1, ("lost",)), Plan(("whole",), (0, 1), choice="newest")
        told = [len(keep), "lost" in keep, (keep + "worn").harms,
                Keep.full(2, 1) - "late" == Keep(2, 1, ("lost", "torn", "worn")), plan.but("limit", 2).limit,
                plan.turned().order]
        self.assertEqual(told, [2, True, ("lost", "worn"), True, 2, (1, 0)])

    def test_shelves(self):
        for shelves in WRONG_NUMBERS + (0, 4, -1, 10 ** 30):
            self.assert_part("SHELVES", Keep, shelves, 1)
            self.assert_part("SHELVES", Keep.full, shelves, 1)

    def test_blocks(self):
        for blocks in WRONG_NUMBERS + (0, 3, -1, 10 ** 30):
            self.assert_part("BLOCKS", Keep, 1, blocks)
            self.assert_part("BLOCKS", Keep.full, 1, blocks)

    def test_harms(self):
        for harms in WRONG_HARMS:
            self.assert_part("HARMS", Keep, 1, 1, harms)
            self.assert_part("HARMS", Keep, 3, 2, harms)
        for harms in (("astray",), ("astray", "lost"), WORDS):
            self.assert_part("HARMS", Keep, 2, 1, harms)
            self.assertEqual(Keep(2, 2, harms).harms, harms)
        self.assert_part("HARMS", Keep, 2, 2, ("lost", "astray"))

    def test_most(self):
        for most in WRONG_NUMBERS + (-1, 3, 10 ** 30):
            self.assert_part("MOST", lambda most=most: Keep(1, 1, most=most))
            self.assert_part("MOST", lambda most=most: Keep.full(1, 1, most=most))

    def test_first_wrong_part(self):
        self.assert_part("SHELVES", Keep, 0, 0, None, most=None)
        self.assert_part("SHELVES", Keep, True, 1, (), most=3)
        self.assert_part("BLOCKS", Keep, 1, 0, None, most=None)
        self.assert_part("BLOCKS", Keep, 1, [2], ("astray",), most=None)
        self.assert_part("HARMS", Keep, 1, 1, [], most=None)
        self.assert_part("SHELVES", Keep.full, None, None, most=None)
        self.assert_part("BLOCKS", Keep.full, 1, None, most=None)

    def test_full(self):
        for shelves, most in itertools.product((1, 2, 3), (0, 1, 2)):
            self.assertEqual(Keep.full(shelves, 1, most=most), Keep(shelves, 1, WORDS[1:], most=most))
            self.assertEqual(Keep.full(shelves, 2, most=most), Keep(shelves, 2, WORDS, most=most))
        self.assertEqual(Keep.full(1, 2).most, 1)

    def test_word_in_keep(self):
        for keep in (Keep(2, 1), Keep(1, 1, ("lost", "worn")), Keep.full(3, 2)):
            self.assertEqual([word for word in WORDS if word in keep], list(keep.harms))
            for thing in NO_WORDS + OTHER_WORDS:
                with self.subTest(thing=thing):
                    self.assertIs(thing in keep, False)
        self.assertIs("lost" in Keep(1, 1, ("lost",)), True)

    def test_harm_more_and_fewer(self):
        for blocks in (1, 2):
            known = WORDS if blocks == 2 else WORDS[1:]
            for harms in sets_of(known):
                keep = Keep(3, blocks, harms, most=2)
                for word in known:
                    more = tuple(sorted({*harms, word}))
                    self.assertEqual(keep + word, Keep(3, blocks, more, most=2))
                for word in WORDS:
                    fewer = tuple(sorted({*harms} - {word}))
                    self.assertEqual(keep - word, Keep(3, blocks, fewer, most=2))
                self.assertEqual(keep, Keep(3, blocks, harms, most=2))

    def test_wrong_harms_more_and_fewer(self):
        for keep in (Keep(2, 1, ("lost",), most=0), Keep.full(2, 2)):
            for thing in NO_WORDS + OTHER_WORDS:
                self.assert_part("HARMS", lambda: keep + thing)
                self.assert_part("HARMS", lambda: keep - thing)
        self.assert_part("HARMS", lambda: Keep(2, 1) + "astray")
        self.assertEqual(Keep(2, 1) - "astray", Keep(2, 1))

    def test_equality(self):
        keep = Keep(2, 2, ("lost", "worn"), most=1)
        same = Keep(2, 2, ("lost", "worn"), most=1)
        self.assertTrue(keep == same)
        self.assertFalse(keep != same)
        for other in (Keep(3, 2, ("lost", "worn"), most=1), Keep(2, 1, ("lost", "worn"), most=1),
                      Keep(2, 2, ("lost",), most=1), Keep(2, 2, ("lost", "worn"), most=2)):
            self.assertFalse(keep == other)
            self.assertTrue(keep != other)
        plan = Plan(("whole", "whole"), (0, 1))
        self.assertFalse(keep == plan or plan == keep)
        self.assertTrue(keep != plan and plan != keep)

    def test_wrong_list_is_not_changed(self):
        harms = ["torn", "lost"]
        self.assert_part("HARMS", Keep, 2, 1, harms)
        self.assertEqual(harms, ["torn", "lost"])


if __name__ == "__main__":
    unittest.main()
