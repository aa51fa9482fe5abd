"""Promises 5 and 7: histories, the harms in them, and all states that come about."""

import copy
import unittest

from builders import EqualToAll, cell, one, right
from model import reach_by_the_words
from sizes import AT_MOST, BEYOND

from quietharm.deeds import after, all_states, harms_in, trace
from quietharm.errors import BadHistory, BadKeep, BadPlan, TooLarge
from quietharm.keeps import Keep, Plan
from quietharm.states import first_state, is_state

ONE = Keep(2, 1, ("late", "lost", "worn"), most=2)
WHOLE = Plan(("whole",), (0, 1))
FIRST = one(right(), right())
AGED = cell((0, 1), (0, 1))
ROUND = ("round",)
DONE = ("write", 0, ("done", "done"))
LATE = ("write", 0, ("late", "lost"))
LAND = ("land", 0, 0)
WEAR = ("wear", 1, 0, 1)


class TraceTest(unittest.TestCase):
    def test_empty_history(self):
        for history in ([], ()):
            self.assertEqual(trace(ONE, WHOLE, history), [FIRST])
            self.assertEqual(harms_in(ONE, WHOLE, history), 0)

    def test_lists_and_tuples(self):
        want = [FIRST, FIRST, one(cell((0, 1), (0, 1), None, 0), AGED, harms=2), one(right(), AGED, harms=2),
                one(right(), right()), one(right(), cell((0, 0), None), harms=1)]
        history = [DONE, LATE, LAND, ROUND, WEAR]
        for told in (history, tuple(history)):
            self.assertEqual(trace(ONE, WHOLE, told), want)
            self.assertEqual(harms_in(ONE, WHOLE, told), 3)

    def test_each_state_is_that_behind_the_deed(self):
        history = [WEAR, LATE[:2] + (("done", "late"),), ("land", 1, 0), ("round",), LATE, LAND, DONE]
        states = trace(ONE, WHOLE, history)
        self.assertEqual(len(states), 8)
        for deed, told, later in zip(history, states, states[1:]):
            self.assertEqual(after(ONE, WHOLE, told, deed), later)

    def test_harms_are_those_of_all_deeds(self):
        self.assertEqual(harms_in(ONE, WHOLE, [LATE, ROUND] * 5 + [WEAR]), 11)
        self.assertEqual(harms_in(ONE, WHOLE, [DONE, ROUND, DONE]), 0)
        keep = Keep(2, 2, ("astray", "torn"), most=2)
        plan = Plan(("bare", "bare"), (0, 1))
        self.assertEqual(harms_in(keep, plan, [("write", 1, ("astray", "torn")), ROUND,
                                               ("write", 0, ("done", "astray"))]), 3)

    def assert_bad(self, history, index, keep=ONE, plan=WHOLE):
        for ask in (trace, harms_in):
            with self.subTest(history=history, ask=ask), self.assertRaises(BadHistory) as caught:
                ask(keep, plan, history)
            self.assertEqual(caught.exception.index, index)
            self.assertNotIsInstance(caught.exception.index, bool)

    def test_no_list_and_no_tuple(self):
        for thing in (None, True, False, 0, "", "round", b"", {}, {ROUND: 0}, {0: ROUND}, object(), EqualToAll(), {1},
                      iter([ROUND]), range(2), ONE):
            self.assert_bad(thing, None)

    def test_first_item_that_is_no_deed(self):
        odd = (None, True, 0, "round", [], (), ["round"], ("round", 0), ("write", 0, ["done", "done"]), ("land", 0, True),
               ("write", 0, ("torn", "done")), ("wear", 2, 0, 0), EqualToAll(), {}, object())
        for thing in odd:
            for before in range(3):
                for rest in ([], [ROUND], [None]):
                    self.assert_bad([DONE] * before + [thing] + rest, before)
                    self.assert_bad((DONE,) * before + (thing,) + tuple(rest), before)

    def test_first_item_that_is_not_possible(self):
        self.assert_bad([LAND], 0)
        self.assert_bad([LATE, WEAR], 1)
        self.assert_bad((LATE, LAND, ROUND, WEAR, WEAR, None), 4)
        self.assert_bad([LATE, ROUND, LAND], 2)
        self.assert_bad([LATE, ROUND, LATE, LAND, LAND], 4)
        self.assert_bad(ROUND, 0)

    def test_no_deed_before_one_that_is_not_possible(self):
        self.assert_bad([DONE, None, LAND], 1)
        self.assert_bad([DONE, LAND, None], 1)

    def test_lists_are_neither_kept_nor_changed(self):
        history = [DONE, LATE]
        kept = copy.deepcopy(history)
        told = trace(ONE, WHOLE, history)
        told.append(None)
        self.assertEqual(history, kept)
        self.assertEqual(len(trace(ONE, WHOLE, history)), 3)
        history.append(LAND)
        self.assertEqual(len(trace(ONE, WHOLE, history)), 4)

    def test_errors_in_their_order(self):
        for ask in (trace, harms_in):
            for keep in (None, WHOLE):
                with self.assertRaises(BadKeep):
                    ask(keep, None, None)
            for plan in (None, ONE, WHOLE.but("order", (0,)), WHOLE.but("sums", ("bare", "bare"))):
                with self.assertRaises(BadPlan):
                    ask(ONE, plan, None)

    def test_histories_are_never_too_large(self):
        for keep, plan in BEYOND:
            start = first_state(keep, plan)
            self.assertEqual(trace(keep, plan, [ROUND] * 500), [start] * 501)
            self.assertEqual(harms_in(keep, plan, [ROUND] * 500), 0)


class AllStatesTest(unittest.TestCase):
    def test_states_by_hand(self):
        keep = Keep(2, 1, ("lost",))
        want = {FIRST, one(AGED, right(), harms=1), one(right(), AGED, harms=1), one(right(), right(), harms=1)}
        told = all_states(keep, WHOLE.but("choice", "newest"))
        self.assertEqual(len(told), 4)
        self.assertEqual(set(told), want)
        older = {one(AGED, AGED), one(AGED, AGED, harms=1), one(right(), AGED), one(AGED, right())}
        self.assertTrue(older.isdisjoint(told))
        told = all_states(keep, WHOLE)
        self.assertIn(one(AGED, AGED), told)
        self.assertEqual(len(told), len(set(told)))

    def test_without_harms(self):
        for harms, most in (((), 2), (("lost", "torn", "worn"), 0)):
            self.assertEqual(all_states(Keep(2, 1, harms, most=most), WHOLE), [FIRST])

    def test_each_once_and_a_state(self):
        for keep, plan in AT_MOST:
            told = all_states(keep, plan)
            self.assertEqual(len(told), 400)
            self.assertEqual(len(set(told)), 400)
            self.assertEqual(told.count(first_state(keep, plan)), 1)
            self.assertTrue(all(is_state(keep, plan, state) for state in told))
            self.assertEqual(set(told), set(reach_by_the_words(keep, plan)))

    def test_more_than_there_may_be(self):
        self.assertEqual([len(reach_by_the_words(*pair, most=402)) for pair in BEYOND[:2]], [401, 402])
        for keep, plan in BEYOND:
            with self.assertRaises(TooLarge):
                all_states(keep, plan)

    def test_list_is_new(self):
        keep = Keep(2, 1, ("lost",))
        told = all_states(keep, WHOLE)
        size = len(told)
        told.clear()
        self.assertEqual(len(all_states(keep, WHOLE)), size)

    def test_errors_in_their_order(self):
        for keep in (None, WHOLE):
            with self.assertRaises(BadKeep):
                all_states(keep, None)
        for plan in (None, ONE, Plan(("whole",) * 2, (0, 1))):
            with self.assertRaises(BadPlan):
                all_states(BEYOND[2][0].full(2, 1, most=2), plan)


if __name__ == "__main__":
    unittest.main()
