"""Promise 7: wishes, in states and after all histories, and the answers that show it."""

import unittest

from builders import KINDS, EqualToAll, cell, copies, one, right, state
from model import closed, reach_by_the_words, wishes_by_the_words
from sizes import AT_MOST, BEYOND

from quietharm.deeds import all_states, harms_in, trace
from quietharm.errors import BadKeep, BadPlan, BadState, BadWish, TooLarge
from quietharm.judging import WISHES, Harmed, Safe, fewest, fulfils, is_safe, judge, soonest
from quietharm.keeps import Keep, Plan
from quietharm.states import first_state

ONE = Keep(2, 1, ("lost",))
NEWEST = Plan(("whole",), (0, 1), choice="newest")
FIRST = NEWEST.but("choice", "first")
SET = FIRST.but("mends", False)
THREE = Keep(3, 1)
TWO = Keep.full(2, 2)
MINE, OLD, OTHER = (0, 0), (0, 1), (1, 0)
AGED, TORN, WORN = cell(OLD, OLD), cell(MINE, OLD), cell(None, MINE)
NO = (False, False)
ROUND = ("round",)
LOST = ("write", 0, ("lost", "done"))
DONE = ("write", 0, ("done", "done"))
START = first_state(ONE, FIRST)
SMALL = (Keep(2, 1, ("late", "torn")), Keep(2, 1, ("lost",), most=2), Keep(2, 1, ("worn",), most=2))
ODD_WISHES = (None, True, 0, "", "True", "TRUE", "safe", "open ", b"true", ("true",), ["true"], {}, object(), EqualToAll(),
              WISHES)


class FulfilsTest(unittest.TestCase):
    def assert_wishes(self, keep, plan, told, *want):
        found = [wish for wish in WISHES if fulfils(keep, plan, told, wish=wish)]
        self.assertEqual(found, list(want))
        self.assertEqual(wishes_by_the_words(plan, told), found)
        for wish in WISHES:
            self.assertIs(fulfils(keep, plan, told, wish=wish), wish in want)
        self.assertIs(fulfils(keep, plan, told), "true" in want)

    def test_names(self):
        self.assertEqual(WISHES, ("true", "kept", "left", "open"))

    def test_first_state(self):
        for plan in (NEWEST, FIRST, SET, FIRST.but("limit", 1), FIRST.but("sums", ("bare",))):
            self.assert_wishes(ONE, plan, START, *WISHES)

    def test_right_copy_is_taken(self):
        self.assert_wishes(ONE, FIRST, one(right(), AGED), *WISHES)
        self.assert_wishes(ONE, NEWEST, one(AGED, right()), *WISHES)
        self.assert_wishes(ONE, FIRST, one(TORN, right()), *WISHES)

    def test_wrong_copy_is_taken(self):
        self.assert_wishes(ONE, FIRST, one(AGED, right()), "left", "open")
        self.assert_wishes(ONE, FIRST.but("sums", ("bare",)), one(WORN, right()), "left", "open")
        self.assert_wishes(THREE, Plan(("whole",), (0, 1, 2), choice="most"), one(AGED, right(), AGED), "left", "open")

    def test_wrong_copy_does_no_harm_without_mending(self):
        self.assert_wishes(ONE, SET, one(AGED, right()), "kept", "left", "open")

    def test_wrong_copy_over_wrong_ones(self):
        for plan in (FIRST, SET):
            self.assert_wishes(ONE, plan, one(AGED, TORN), "kept", "open")
            self.assert_wishes(ONE, plan, one(AGED, AGED), "kept", "open")

    def test_nothing_is_found(self):
        self.assert_wishes(ONE, FIRST, one(TORN, WORN), "true", "kept")
        self.assert_wishes(ONE, FIRST, one(TORN, right(), given_up=True), "true", "kept", "left")
        self.assert_wishes(ONE, FIRST, one(AGED, right(), given_up=True), "true", "kept", "left")

    def test_right_copy_that_does_not_pass(self):
        noted = FIRST.but("sums", ("noted",))
        self.assert_wishes(ONE, noted, one(right(note=1), right(note=1)), "true", "kept", "left")
        self.assert_wishes(ONE, noted, one(cell(OLD, OLD, 1), right(note=1)), "left", "open")
        self.assert_wishes(ONE, noted.but("mends", False), one(cell(OLD, OLD, 1), right(note=1)), "kept", "left", "open")

    def test_shelves_put_out(self):
        plan = FIRST.but("limit", 1)
        self.assert_wishes(ONE, plan, one(None, right()), *WISHES)
        self.assert_wishes(ONE, plan, one(None, AGED), "kept", "open")
        self.assert_wishes(ONE, plan, one(TORN, None), "true", "kept")

    def test_one_block_of_two_is_enough(self):
        plan = Plan(("whole", "whole"), (0, 1))
        good, other, none = (MINE, MINE), (OTHER, OTHER), (None, None)
        for first, second, want in (((good, other), (good, other), WISHES),
                                    (((OLD, OLD), other), (good, other), ("left", "open")),
                                    ((good, good), (good, other), ("left", "open")),
                                    ((good, good), (good, none), ("kept", "open")),
                                    ((good, none), (good, none), ("true", "kept")),
                                    ((none, other), (good, other), WISHES),
                                    ((none, other), ((OLD, OLD), other), ("kept", "open")),
                                    ((none, good), ((OLD, OLD), other), ("open",)),
                                    (((OLD, OLD), none), (good, none), ())):
            self.assert_wishes(TWO, plan, state(copies(*first), copies(*second), given_up=NO), *want)
        told = state(copies(good, other), copies(good, other), given_up=(False, True))
        self.assert_wishes(TWO, plan, told, "true", "kept", "left")

    def test_errors_in_their_order(self):
        for keep in (None, FIRST):
            with self.assertRaises(BadKeep):
                fulfils(keep, None, None, wish=None)
        for plan in (None, ONE, FIRST.but("order", (0,))):
            with self.assertRaises(BadPlan):
                fulfils(ONE, plan, None, wish=None)
        for told in (None, list(START), one(right()), one(right(), right(), harms=2)):
            with self.assertRaises(BadState):
                fulfils(ONE, FIRST, told, wish=None)
        for wish in ODD_WISHES:
            with self.assertRaises(BadWish):
                fulfils(ONE, FIRST, START, wish=wish)


class JudgeTest(unittest.TestCase):
    def assert_judged(self, keep, plan, wish, deeds_least, harms_least):
        found = judge(keep, plan, wish=wish)
        self.assertTrue(found.shows(keep, plan, wish=wish))
        self.assertIs(is_safe(keep, plan, wish=wish), deeds_least is None)
        self.assertEqual(soonest(keep, plan, wish=wish), deeds_least)
        self.assertEqual(fewest(keep, plan, wish=wish), harms_least)
        if deeds_least is None:
            self.assertIsInstance(found, Safe)
            self.assertEqual(set(found.states), set(all_states(keep, plan)))
        else:
            self.assertIsInstance(found, Harmed)
            self.assertIsInstance(found.history, tuple)
            self.assertGreaterEqual(len(found.history), deeds_least)
            self.assertGreaterEqual(harms_in(keep, plan, found.history), harms_least)

    def test_by_hand(self):
        for wish in WISHES:
            self.assert_judged(ONE, NEWEST, wish, None, None)
        for wish, want in zip(WISHES, ((1, 1), (1, 1), (2, 1), (None, None))):
            self.assert_judged(ONE, FIRST, wish, *want)
        for wish, want in zip(WISHES, ((1, 1), (None, None), (None, None), (None, None))):
            self.assert_judged(ONE, SET, wish, *want)

    def test_without_harms(self):
        for keep in (Keep(3, 2, (), most=2), Keep.full(3, 2, most=0)):
            for wish in WISHES:
                self.assert_judged(keep, Plan(("bare", "noted"), (2, 0, 1), limit=1), wish, None, None)

    def test_wish_that_is_not_told_is_the_first_one(self):
        self.assertIsInstance(judge(ONE, FIRST), Harmed)
        self.assertFalse(is_safe(ONE, FIRST))
        keep = Keep(1, 1, ("torn",))
        plan = Plan(("whole",), (0,))
        self.assertTrue(is_safe(keep, plan))
        self.assertIsInstance(judge(keep, plan), Safe)
        self.assertEqual((soonest(keep, plan), fewest(keep, plan)), (None, None))
        self.assertEqual((soonest(keep, plan, wish="open"), fewest(keep, plan, wish="open")), (1, 1))
        self.assertTrue(Safe(all_states(keep, plan)).shows(keep, plan))
        self.assertTrue(Harmed([LOST]).shows(ONE, FIRST))

    def test_fewest_deeds_and_fewest_harms_of_different_histories(self):
        keep = Keep(3, 1, ("lost",), most=2)
        plan = Plan(("whole",), (0, 1, 2), choice="most")
        self.assert_judged(keep, plan, "true", 1, 2)
        keep = Keep(2, 1, ("lost",), most=2)
        self.assert_judged(keep, SET, "left", 1, 2)
        self.assert_judged(keep, FIRST, "left", 1, 1)
        self.assertTrue(Harmed([("write", 0, ("lost", "lost"))]).shows(keep, FIRST, wish="left"))
        self.assertTrue(Harmed([LOST, ROUND]).shows(keep, FIRST, wish="left"))
        self.assertFalse(Harmed([LOST]).shows(keep, FIRST, wish="left"))

    def test_least_numbers_go_with_all_histories(self):
        differ = 0
        for keep, plan in [AT_MOST[0]] + [(keep, plan) for keep in SMALL for plan in self.plans(keep)]:
            found = reach_by_the_words(keep, plan)
            fulfilled = {told: wishes_by_the_words(plan, told) for told in found}
            for wish in WISHES:
                bad = [numbers for told, numbers in found.items() if wish not in fulfilled[told]]
                least = [min([numbers[at] for numbers in bad], default=None) for at in (0, 1)]
                self.assert_judged(keep, plan, wish, *least)
                differ += bool(bad) and tuple(least) not in bad
        self.assertGreater(differ, 0)

    def plans(self, keep):
        for kind, choice, limit in zip(KINDS, ("first", "newest", "most", "first"), (None, 1, None, 2)):
            yield Plan((kind,) * keep.blocks, (1, 0), choice=choice, limit=limit, mends=kind != "named")

    def test_answers_are_new(self):
        for plan in (NEWEST, FIRST):
            found = judge(ONE, plan)
            if isinstance(found, Safe):
                found.states.clear()
            else:
                found.history = ()
            self.assertFalse(found.shows(ONE, plan))
            self.assertTrue(judge(ONE, plan).shows(ONE, plan))

    def test_too_large(self):
        for (keep, plan), wish in zip(BEYOND, WISHES + WISHES):
            for ask in (judge, is_safe, soonest, fewest):
                with self.assertRaises(TooLarge):
                    ask(keep, plan, wish=wish)

    def test_too_large_also_where_the_wish_is_soon_not_fulfilled(self):
        keep, plan = BEYOND[4]
        self.assertTrue(Harmed([("write", 0, ("lost", "done", "lost"))]).shows(keep, plan))
        with self.assertRaises(TooLarge):
            judge(keep, plan)

    def test_errors_in_their_order(self):
        large, plan = BEYOND[2]
        asked = [judge, is_safe, soonest, fewest, Safe([]).shows, Safe([START]).shows, Harmed([]).shows,
                 Harmed((LOST,)).shows]
        for ask in asked:
            for keep in (None, FIRST, 3):
                with self.assertRaises(BadKeep) as caught:
                    ask(keep, None, wish=None)
                self.assertIsNone(caught.exception.part)
            for odd in (None, large, FIRST, plan.but("order", (0, 1, 2))):
                with self.assertRaises(BadPlan) as caught:
                    ask(large, odd, wish=None)
                self.assertIsNone(caught.exception.part)
            for wish in ODD_WISHES:
                with self.assertRaises(BadWish):
                    ask(large, plan, wish=wish)


class SafeTest(unittest.TestCase):
    def test_lists_as_told(self):
        states = all_states(ONE, NEWEST)
        for wish in WISHES:
            for told in (states, states[::-1], states * 3, states + states[:1]):
                self.assertIs(Safe(told).shows(ONE, NEWEST, wish=wish), True)

    def test_state_left_out(self):
        states = all_states(ONE, NEWEST)
        for at in range(len(states)):
            left = states[:at] + states[at + 1:]
            self.assertIs(Safe(left).shows(ONE, NEWEST), False)
            self.assertIs(Safe(left + left).shows(ONE, NEWEST), False)
        self.assertIs(Safe([]).shows(ONE, NEWEST), False)
        self.assertIs(Safe([START]).shows(ONE, NEWEST), False)
        self.assertIs(Safe([START]).shows(Keep(2, 1), NEWEST), True)

    def test_state_put_in(self):
        states = all_states(ONE, NEWEST)
        odd = one(cell(None, None), right())
        self.assertIs(Safe(states + [odd]).shows(ONE, NEWEST), False)
        more = closed(ONE, NEWEST, states + [odd])
        self.assertGreater(len(more), len(states) + 1)
        self.assertIs(Safe(more).shows(ONE, NEWEST), True)
        wrong = closed(ONE, NEWEST, states + [one(AGED, cell(None, MINE))])
        self.assertIs(Safe(wrong).shows(ONE, NEWEST), False)
        self.assertIs(Safe(wrong).shows(ONE, NEWEST, wish="kept"), True)
        self.assertIs(Safe(wrong).shows(ONE, NEWEST, wish="left"), False)

    def test_wish_is_not_fulfilled_in_one_of_them(self):
        states = all_states(ONE, FIRST)
        for wish in WISHES:
            self.assertIs(Safe(states).shows(ONE, FIRST, wish=wish), wish == "open")
        good = [told for told in states if fulfils(ONE, FIRST, told)]
        self.assertIs(Safe(good).shows(ONE, FIRST), False)

    def test_first_state_is_in_it(self):
        keep = Keep(2, 1, ("lost",), most=1)
        odd = closed(keep, SET, [one(cell((0, 1), (0, 2)), cell(None, (0, 3)))])
        self.assertIn(START, odd)
        single = Keep(1, 1)
        plan = Plan(("whole",), (0,), limit=2)
        start = one(right(), tallies=(0,))
        tallied = one(right(), tallies=(1,))
        self.assertIs(Safe([tallied]).shows(single, plan), False)
        self.assertIs(Safe([tallied, start]).shows(single, plan), True)
        self.assertIs(Safe([start]).shows(single, plan), True)

    def test_states_for_another_keep(self):
        states = all_states(ONE, NEWEST)
        self.assertIs(Safe(states).shows(Keep(2, 1, ("lost",), most=2), NEWEST), False)
        self.assertIs(Safe(states).shows(Keep(2, 1, ("lost", "torn")), NEWEST), False)
        self.assertIs(Safe(states).shows(Keep(2, 1), NEWEST), True)
        self.assertIs(Safe([START]).shows(Keep(2, 1, ("lost", "torn"), most=0), NEWEST), True)

    def test_things_that_are_no_states(self):
        states = all_states(ONE, NEWEST)
        for odd in (None, 0, True, [], {}, list(START), START[:2], (START[0], False, START[2]), (START[0], 2, START[2]),
                    one(right(note=0), right(note=0)), one(cell((0, 2), (0, 2)), right()), EqualToAll()):
            self.assertIs(Safe(states + [odd]).shows(ONE, NEWEST), False)
            self.assertIs(Safe([odd]).shows(ONE, NEWEST), False)

    def test_more_states_than_are_looked_at_elsewhere(self):
        for keep, plan in BEYOND[:2]:
            states = list(reach_by_the_words(keep, plan, most=402))
            self.assertGreater(len(states), 400)
            want = [wish for wish in WISHES if all(fulfils(keep, plan, told, wish=wish) for told in states)]
            self.assertEqual([wish for wish in WISHES if Safe(states).shows(keep, plan, wish=wish)], want)
            self.assertIs(Safe(states[:-1]).shows(keep, plan, wish="kept"), False)

    def test_list_is_copied(self):
        states = all_states(ONE, NEWEST)
        found = Safe(states)
        states.clear()
        self.assertIs(found.shows(ONE, NEWEST), True)
        self.assertIsInstance(found.states, list)
        self.assertEqual(len(found.states), 4)

    def test_changed_attribute_is_asked(self):
        found = Safe(all_states(ONE, NEWEST))
        last = found.states.pop()
        self.assertIs(found.shows(ONE, NEWEST), False)
        found.states.append(last)
        self.assertIs(found.shows(ONE, NEWEST), True)
        found.states = []
        self.assertIs(found.shows(ONE, NEWEST), False)
        found.states = all_states(ONE, NEWEST)
        self.assertIs(found.shows(ONE, NEWEST), True)

    def test_showing_changes_nothing(self):
        states = all_states(ONE, NEWEST) * 2
        found = Safe(states)
        found.shows(ONE, NEWEST)
        self.assertEqual(found.states, states)


class HarmedTest(unittest.TestCase):
    def test_lists_and_tuples(self):
        for history in ([LOST], (LOST,), [DONE, LOST], (ROUND, DONE, LOST)):
            found = Harmed(history)
            self.assertEqual(found.history, tuple(history))
            self.assertIsInstance(found.history, tuple)
            self.assertIs(found.shows(ONE, FIRST), True)
            self.assertIs(found.shows(ONE, NEWEST), False)

    def test_each_wish(self):
        for history, want in (((), ()), ((LOST,), ("true", "kept")), ((LOST, ROUND), ("true", "left")),
                              ((LOST, DONE), ()), ((ROUND,), ()), ((LOST, ROUND, LOST), ("true", "kept"))):
            found = [wish for wish in WISHES if Harmed(history).shows(ONE, FIRST, wish=wish)]
            self.assertEqual(found, list(want))

    def test_history_shortened_and_lengthened(self):
        keep = Keep(2, 1, ("torn", "worn"))
        plan = Plan(("whole",), (0, 1), limit=2)
        history = judge(keep, plan, wish="open").history
        self.assertEqual(len(history), soonest(keep, plan, wish="open"))
        for size in range(len(history)):
            self.assertIs(Harmed(history[:size]).shows(keep, plan, wish="open"), False)
        self.assertIs(Harmed(history + (ROUND,)).shows(keep, plan, wish="open"), True)
        self.assertIs(Harmed(history + (ROUND, DONE)).shows(keep, plan, wish="open"), False)

    def test_not_possible(self):
        for history in ((LOST, LOST), (("write", 0, ("lost", "lost")),), (("land", 0, 0), LOST), (LOST, ("wear", 0, 0, 0)),
                        (LOST, ("land", 1, 0)), (("wear", 0, 0, 0), LOST)):
            for wish in WISHES:
                self.assertIs(Harmed(history).shows(ONE, FIRST, wish=wish), False)
        self.assertIs(Harmed((LOST, DONE, LOST)).shows(ONE, FIRST), False)
        self.assertIs(Harmed((LOST, ROUND, LOST)).shows(ONE, FIRST), True)

    def test_of_another_keep(self):
        self.assertIs(Harmed((LOST,)).shows(Keep(2, 1, ("torn",)), FIRST), False)
        self.assertIs(Harmed((LOST,)).shows(Keep(2, 1, ("lost",), most=0), FIRST), False)
        self.assertIs(Harmed((LOST,)).shows(Keep(3, 1, ("lost",)), Plan(("whole",), (0, 1, 2))), False)

    def test_also_with_more_states_than_are_looked_at_elsewhere(self):
        keep, plan = BEYOND[4]
        history = [("write", 0, ("lost", "done", "lost"))]
        self.assertIs(Harmed(history).shows(keep, plan), True)
        self.assertIs(Harmed(history[:0]).shows(keep, plan), False)

    def test_list_is_copied_and_changed_attribute_is_asked(self):
        history = [LOST]
        found = Harmed(history)
        history.append(DONE)
        self.assertEqual(found.history, (LOST,))
        self.assertIs(found.shows(ONE, FIRST), True)
        found.history = [LOST, DONE]
        self.assertIs(found.shows(ONE, FIRST), False)
        found.history = [DONE, LOST]
        self.assertIs(found.shows(ONE, FIRST), True)
        self.assertEqual(found.history, [DONE, LOST])

    def test_states_on_the_way_do_not_count(self):
        states = trace(ONE, FIRST, [LOST, DONE])
        self.assertFalse(fulfils(ONE, FIRST, states[1]))
        self.assertIs(Harmed([LOST, DONE]).shows(ONE, FIRST), False)


class EqualityTest(unittest.TestCase):
    def assert_equal(self, first, second, want):
        self.assertIs(first == second, want)
        self.assertIs(second == first, want)
        self.assertIs(first != second, not want)
        self.assertIs(second != first, not want)

    def test_safes(self):
        states = all_states(ONE, NEWEST)
        self.assert_equal(Safe(states), Safe(list(states)), True)
        self.assert_equal(Safe([]), Safe([]), True)
        for other in (states[::-1], states * 2, states[:-1], []):
            self.assert_equal(Safe(states), Safe(other), False)

    def test_harmeds(self):
        self.assert_equal(Harmed([LOST]), Harmed((LOST,)), True)
        self.assert_equal(Harmed([]), Harmed(()), True)
        for other in ((), (DONE,), (LOST, LOST), (LOST, ROUND)):
            self.assert_equal(Harmed([LOST]), Harmed(other), False)

    def test_both_classes_and_others(self):
        self.assert_equal(Safe([]), Harmed([]), False)
        self.assert_equal(Safe([LOST]), Harmed([LOST]), False)
        for other in (ONE, FIRST):
            self.assert_equal(Safe([]), other, False)
            self.assert_equal(Harmed([]), other, False)

    def test_changed_attributes(self):
        found = Safe([START])
        found.states.append(START)
        self.assert_equal(found, Safe([START, START]), True)
        told = Harmed([LOST])
        told.history = ()
        self.assert_equal(told, Harmed([]), True)


if __name__ == "__main__":
    unittest.main()
