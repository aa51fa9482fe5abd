"""Promise 5: which deeds are possible, in which order, and which are none, or not possible."""

import copy
import itertools
import unittest

from builders import EqualToAll, cell, copies, one, parts_replaced, right, state, tuples_spoilt
from model import all_deeds, deeds_by_the_words

from quietharm.deeds import after, deeds
from quietharm.errors import BadDeed, BadKeep, BadPlan, BadState, NotNow
from quietharm.keeps import Keep, Plan
from quietharm.states import first_state

ONE = Keep(2, 1, ("late", "lost", "torn", "worn"))
WHOLE = Plan(("whole",), (0, 1))
FIRST = one(right(), right())
TWO = Keep.full(2, 2)
BOTH = Plan(("whole", "bare"), (0, 1))
NO = (False, False)
ROUND = ("round",)
WEARS = [("wear", shelf, 0, half) for shelf in (0, 1) for half in (0, 1)]


def written(*rows):
    """The writes of block 0 that come to these words, each row as one text."""
    return [("write", 0, tuple(row.split())) for row in rows]


class PossibleTest(unittest.TestCase):
    def test_all_harms_of_one_block_in_order(self):
        want = written("done done", "done late", "done lost", "done torn", "late done", "lost done", "torn done")
        self.assertEqual(deeds(ONE, WHOLE, FIRST), want + WEARS + [ROUND])

    def test_order_of_words_is_not_that_of_the_alphabet(self):
        words = [deed[2] for deed in deeds(TWO, BOTH, first_state(TWO, BOTH)) if deed[:2] == ("write", 1)]
        known = ("done", "astray", "late", "lost", "torn")
        self.assertEqual(words, [("done", word) for word in known] + [(word, "done") for word in known[1:]])
        self.assertNotEqual(words, sorted(words))

    def test_two_harms_left(self):
        keep = Keep(2, 1, ("lost", "torn"), most=2)
        rows = [" ".join(words) for words in itertools.product(("done", "lost", "torn"), repeat=2)]
        self.assertEqual(deeds(keep, WHOLE, FIRST), written(*rows) + [ROUND])
        keep = Keep(3, 1, ("lost",), most=2)
        rows = ["done done done", "done done lost", "done lost done", "done lost lost", "lost done done",
                "lost done lost", "lost lost done"]
        self.assertEqual(deeds(keep, Plan(("bare",), (2, 1, 0)), one(right(), right(), right())),
                         written(*rows) + [ROUND])

    def test_harms_left_are_those_before_the_next_round(self):
        keep = Keep(2, 1, ONE.harms, most=2)
        self.assertEqual(deeds(keep, WHOLE, one(right(), right(), harms=1)), deeds(ONE, WHOLE, FIRST))
        self.assertEqual(deeds(keep, WHOLE, one(right(), right(), harms=2)), written("done done") + [ROUND])
        self.assertEqual(deeds(ONE, WHOLE, one(right(), right(), harms=1)), written("done done") + [ROUND])
        self.assertEqual(deeds(Keep(2, 1, ONE.harms, most=0), WHOLE, FIRST), written("done done") + [ROUND])

    def test_landings_cost_no_harm(self):
        told = one(right(late=0), cell((0, 1), (0, 1), None, 1), harms=1)
        want = written("done done") + [("land", 0, 0), ("land", 1, 0), ROUND]
        self.assertEqual(deeds(ONE, WHOLE, told), want)
        self.assertEqual(deeds(Keep(2, 1, (), most=2), WHOLE, told), want)

    def test_keep_without_harms(self):
        self.assertEqual(deeds(Keep(2, 1, (), most=2), WHOLE, FIRST), written("done done") + [ROUND])
        self.assertEqual(deeds(Keep(1, 2), Plan(("bare",) * 2, (0,)), state(copies(*[((0, 0),) * 2] * 2), given_up=NO)),
                         [("write", 0, ("done",)), ("write", 1, ("done",)), ROUND])

    def test_worn_halves_are_not_worn_again(self):
        told = one(cell(None, (0, 0)), cell((0, 1), None))
        keep = Keep(2, 1, ("worn",))
        self.assertEqual(deeds(keep, WHOLE, told), written("done done") + [("wear", 0, 0, 1), ("wear", 1, 0, 0), ROUND])
        self.assertEqual(deeds(keep, WHOLE, one(cell(None, None), cell(None, None))), written("done done") + [ROUND])

    def test_shelves_put_out(self):
        plan = Plan(("whole",), (0, 1, 2), limit=1)
        keep = Keep(3, 1, ("late", "lost", "worn"), most=2)
        told = one(right(late=0), None, right())
        want = written("done done done", "done done late", "done done lost", "late done done", "late done late",
                       "late done lost", "lost done done", "lost done late", "lost done lost")
        wears = [("wear", shelf, 0, half) for shelf in (0, 2) for half in (0, 1)]
        self.assertEqual(deeds(keep, plan, told), want + [("land", 0, 0)] + wears + [ROUND])

    def test_two_blocks(self):
        keep = Keep(2, 2, ("astray", "worn"))
        shelves = (((right(0), right(1, late=0)), 0), ((cell(None, (1, 0), None, 0), right(1, late=1)), 0))
        words = [("done", "done"), ("done", "astray"), ("astray", "done")]
        want = [("write", block, told) for block in (0, 1) for told in words]
        want += [("land", 0, 1), ("land", 1, 0), ("land", 1, 1)]
        want += [("wear", 0, 0, 0), ("wear", 0, 0, 1), ("wear", 0, 1, 0), ("wear", 0, 1, 1), ("wear", 1, 0, 1),
                 ("wear", 1, 1, 0), ("wear", 1, 1, 1), ROUND]
        self.assertEqual(deeds(keep, BOTH, (shelves, 0, NO)), want)

    def test_blocks_given_up_and_kinds_of_sums_do_not_matter(self):
        want = deeds(ONE, WHOLE, FIRST)
        self.assertEqual(deeds(ONE, WHOLE, one(right(), right(), given_up=True)), want)
        self.assertEqual(deeds(ONE, Plan(("noted",), (1, 0)), one(right(note=0), right(note=0))), want)

    def test_list_is_new_and_state_is_not_changed(self):
        told = deeds(ONE, WHOLE, FIRST)
        told.clear()
        self.assertEqual(len(deeds(ONE, WHOLE, FIRST)), 12)
        self.assertEqual(FIRST, first_state(ONE, WHOLE))


class RefusedTest(unittest.TestCase):
    def assert_bad(self, keep, plan, told, deed):
        with self.subTest(deed=deed), self.assertRaises(BadDeed):
            after(keep, plan, told, deed)

    def assert_not_now(self, keep, plan, told, deed):
        with self.subTest(deed=deed), self.assertRaises(NotNow):
            after(keep, plan, told, deed)

    def test_just_the_possible_deeds_are_possible(self):
        plan = Plan(("whole", "bare"), (0, 1), limit=1)
        shelf = ((right(0, late=0), cell(None, (1, 1), None, None)), 0)
        for harms in range(3):
            for told in ((shelf, shelf), (None, shelf), (shelf, None)):
                told = (told, harms, NO)
                for keep in (Keep.full(2, 2, most=2), Keep(2, 2, ("lost",), most=2)):
                    want = deeds(keep, plan, told)
                    self.assertEqual(want, deeds_by_the_words(keep, told))
                    for deed in all_deeds(keep):
                        if deed in want:
                            after(keep, plan, told, deed)
                        else:
                            self.assert_not_now(keep, plan, told, deed)

    def test_harms_that_the_keep_lacks(self):
        keep = Keep(2, 1, ("lost",))
        for word in ("late", "torn", "astray", "worn", "", "Done", "LOST", "x"):
            for words in ((word, "done"), ("done", word), (word, word)):
                self.assert_bad(keep, WHOLE, FIRST, ("write", 0, words))
                self.assert_bad(keep, WHOLE, one(right(), right(), harms=1), ("write", 0, words))
        self.assert_bad(ONE, WHOLE, FIRST, ("write", 0, ("worn", "done")))
        self.assert_bad(Keep.full(2, 1), WHOLE, FIRST, ("write", 0, ("done", "astray")))
        self.assert_bad(Keep(2, 1), WHOLE, FIRST, ("write", 0, ("lost", "lost")))

    def test_too_many_harms(self):
        for most, harms, words in ((1, 0, ("lost", "late")), (1, 1, ("done", "torn")), (2, 1, ("torn", "torn")),
                                   (2, 2, ("lost", "done")), (0, 0, ("done", "late"))):
            keep = Keep(2, 1, ONE.harms, most=most)
            self.assert_not_now(keep, WHOLE, one(right(), right(), harms=harms), ("write", 0, words))
        self.assert_not_now(ONE, WHOLE, one(right(), right(), harms=1), ("wear", 0, 0, 0))
        self.assert_not_now(Keep(2, 1, ("worn",), most=0), WHOLE, FIRST, ("wear", 1, 0, 1))

    def test_shelves_put_out(self):
        plan = WHOLE.but("limit", 1)
        told = one(None, right(late=0))
        for deed in (("write", 0, ("lost", "done")), ("write", 0, ("late", "done")), ("land", 0, 0),
                     ("wear", 0, 0, 0), ("wear", 0, 0, 1)):
            self.assert_not_now(ONE, plan, told, deed)
        self.assertEqual(after(ONE, plan, told, ("write", 0, ("done", "lost")))[1], 1)

    def test_landings_of_nothing(self):
        self.assert_not_now(ONE, WHOLE, FIRST, ("land", 0, 0))
        self.assert_not_now(ONE, WHOLE, one(right(late=0), right()), ("land", 1, 0))
        shelf = ((right(0), right(1, late=0)), 0)
        self.assert_not_now(TWO, BOTH, ((shelf, shelf), 0, NO), ("land", 0, 0))

    def test_wears_that_are_not_possible(self):
        self.assert_not_now(ONE, WHOLE, one(cell(None, (0, 0)), right()), ("wear", 0, 0, 0))
        self.assert_not_now(Keep(2, 1, ("late", "lost", "torn")), WHOLE, FIRST, ("wear", 0, 0, 0))
        self.assert_not_now(Keep(2, 1, (), most=2), WHOLE, FIRST, ("wear", 1, 0, 1))

    def test_other_things(self):
        for thing in (None, True, 0, "", "round", b"round", (), [], {}, {"round": 1}, ["round"], object(), len,
                      EqualToAll(), ((),), (("round",),), (EqualToAll(),), (None,), (0,), ([],), ({},)):
            self.assert_bad(ONE, WHOLE, FIRST, thing)
        for word in ("Round", "rounds", "", "done", "late", "writes", "trial", "lost"):
            self.assert_bad(ONE, WHOLE, FIRST, (word,))
            self.assert_bad(ONE, WHOLE, FIRST, (word, 0, 0))

    def test_sizes(self):
        for deed in (("round", 0), ("round", None), ("round", ()), ("land",), ("land", 0), ("land", 0, 0, 0), ("wear",),
                     ("wear", 0), ("wear", 0, 0), ("wear", 0, 0, 0, 0), ("write",), ("write", 0),
                     ("write", 0, ("done", "done"), 0), ("write", ("done", "done")), ("write", 0, ()),
                     ("write", 0, ("done",)), ("write", 0, ("done",) * 3), ("write", 0, "done", "done")):
            self.assert_bad(ONE, WHOLE, one(right(late=0), right(late=0)), deed)

    def test_numbers_beyond_the_range(self):
        told = state(copies(((0, 0),) * 2, ((1, 0),) * 2), copies(((0, 0),) * 2, ((1, 0),) * 2), given_up=NO)
        for number in (-1, 2, 10 ** 30, None, True, False, "0", (0,), [0], EqualToAll()):
            for deed in (("write", number, ("done", "done")), ("land", number, 0), ("land", 0, number),
                         ("wear", number, 0, 0), ("wear", 0, number, 0), ("wear", 0, 0, number)):
                self.assert_bad(TWO, BOTH, told, deed)
        self.assert_bad(ONE, WHOLE, FIRST, ("wear", 0, 1, 0))
        self.assert_bad(ONE, WHOLE, FIRST, ("write", 1, ("done", "done")))

    def test_lists_and_odd_parts(self):
        told = one(right(late=0), right(late=0))
        for deed in (("write", 0, ("done", "lost")), ("land", 0, 0), ("wear", 1, 0, 1), ROUND):
            for thing in tuples_spoilt(deed):
                self.assert_bad(ONE, WHOLE, told, thing)
            for thing in parts_replaced(deed, (None, True, False, -1, 7, "x", b"x", [], {}, (), object(),
                                               EqualToAll())):
                self.assert_bad(ONE, WHOLE, told, thing)

    def test_errors_in_their_order(self):
        for ask, rest in ((deeds, ()), (after, (None,)), (after, (ROUND,))):
            for keep in (None, WHOLE, (2, 1)):
                with self.assertRaises(BadKeep) as caught:
                    ask(keep, None, None, *rest)
                self.assertIsNone(caught.exception.part)
            for plan in (None, ONE, BOTH, Plan(("whole",), (0,))):
                with self.assertRaises(BadPlan) as caught:
                    ask(ONE, plan, None, *rest)
                self.assertIsNone(caught.exception.part)
            for told in (None, list(FIRST), one(right(), right(), harms=2), one(right(note=0), right(note=0)),
                         one(right(), cell((0, 2), (0, 0))), one(right())):
                with self.assertRaises(BadState):
                    ask(ONE, WHOLE, told, *rest)
        self.assert_bad(ONE, WHOLE, one(right(), right(), harms=1), ("write", 0, ("astray", "lost")))

    def test_arguments_stay_as_they_are(self):
        words = ["write", 0, ["done", "done"]]
        kept = copy.deepcopy(words)
        self.assert_bad(ONE, WHOLE, FIRST, words)
        self.assertEqual(words, kept)
        self.assertEqual((ONE, WHOLE), (Keep(2, 1, ("late", "lost", "torn", "worn")), Plan(("whole",), (0, 1))))


if __name__ == "__main__":
    unittest.main()
