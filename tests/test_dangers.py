"""Promise 11: with which sets of harms alone a wish is not always fulfilled, and with which it is."""

import itertools

from answers import dangers_by_the_words, graph_by_the_words
from builders import KINDS, EqualToAll, cell, one
from cases import Case, turned, without
from sizes import AT_MOST, BEYOND

from quietharm.dangers import Dangers, dangers, greatest_safe, least_dangers
from quietharm.deeds import all_states
from quietharm.errors import BadKeep, BadPlan, BadWish, TooLarge
from quietharm.judging import WISHES, Harmed, Safe, is_safe
from quietharm.keeps import Keep, Plan

ONE = Keep(1, 1, ("lost", "worn"))
BARE = Plan(("bare",), (0,), mends=False)
WHOLE = BARE.but("sums", ("whole",))
LOST, WEAR, ROUND, DONE = ("write", 0, ("lost",)), ("wear", 0, 0, 0), ("round",), ("write", 0, ("done",))
LOSES, WEARS, BOTH = ("lost",), ("worn",), ("lost", "worn")
# Each of both harms alone is safe, but not both together.
TOGETHER = Keep(2, 1, BOTH), Plan(("noted",), (1, 0), choice="most", limit=1)
MANY = Keep(2, 1, ("late", "lost", "torn", "worn")), Plan(("whole",), (0, 1), choice="newest", mends=False)


def states_with(keep, plan, *harms):
    return all_states(Keep(keep.shelves, keep.blocks, harms, most=keep.most), plan)


class DangersTest(Case):
    def assert_dangers(self, keep, plan, wish):
        """What is told, after seeing that it is as the words say."""
        found = self.assert_unchanged(dangers, keep, plan, wish=wish)
        bad, good = dangers_by_the_words(keep, plan, wish)
        self.assertEqual((list(found.bad), list(found.good)), (bad, good))
        self.assertEqual(self.assert_unchanged(least_dangers, keep, plan, wish=wish), bad)
        self.assertEqual(self.assert_unchanged(greatest_safe, keep, plan, wish=wish), good)
        self.assertIs(found.shows(keep, plan, wish=wish), True)
        for harms, history in found.bad.items():
            self.assertIsInstance(history, tuple)
            less = Keep(keep.shelves, keep.blocks, harms, most=keep.most)
            self.assertTrue(Harmed(history).shows(less, plan, wish=wish))
        for harms, states in found.good.items():
            self.assertIsInstance(states, list)
            less = Keep(keep.shelves, keep.blocks, harms, most=keep.most)
            self.assertTrue(Safe(states).shows(less, plan, wish=wish))
            self.assertEqual(set(states), set(all_states(less, plan)))
        return found

    def test_by_hand(self):
        self.assertEqual(least_dangers(ONE, BARE), [LOSES, WEARS])
        self.assertEqual((least_dangers(ONE, WHOLE), greatest_safe(ONE, WHOLE)), ([LOSES], [WEARS]))
        for plan in (BARE, WHOLE):
            for wish in WISHES:
                self.assert_dangers(ONE, plan, wish)
        found = dangers(ONE, BARE)
        self.assertEqual((list(found.bad), list(found.good)), ([LOSES, WEARS], [()]))
        self.assertEqual(found.bad[LOSES], (LOST,))
        self.assertEqual(len(found.good[()]), 1)
        self.assertEqual(dangers(ONE, WHOLE, wish="kept").bad, {})
        self.assertEqual(greatest_safe(ONE, WHOLE, wish="kept"), [BOTH])

    def test_wish_that_is_not_told_is_the_first_one(self):
        self.assertEqual(dangers(ONE, WHOLE), dangers(ONE, WHOLE, wish="true"))
        self.assertTrue(dangers(ONE, WHOLE).shows(ONE, WHOLE))
        self.assertFalse(dangers(ONE, WHOLE, wish="open").shows(ONE, WHOLE))

    def test_no_harms_and_most_of_none(self):
        for keep in (Keep(2, 2), Keep(3, 1, (), most=2)):
            for wish in WISHES:
                plan = Plan(("noted",) * keep.blocks, tuple(range(keep.shelves)), limit=1)
                found = self.assert_dangers(keep, plan, wish)
                self.assertEqual((found.bad, list(found.good)), ({}, [()]))
        keep = Keep.full(2, 2, most=0)
        found = self.assert_dangers(keep, Plan(("bare", "bare"), (0, 1)), "true")
        self.assertEqual((found.bad, list(found.good)), ({}, [keep.harms]))

    def test_dangerous_just_together(self):
        found = self.assert_dangers(*TOGETHER, "true")
        self.assertEqual((list(found.bad), list(found.good)), ([BOTH], [LOSES, WEARS]))
        self.assertEqual(len(set(deed[0] for deed in found.bad[BOTH]) & {"write", "wear"}), 2)

    def test_sets_in_order(self):
        found = self.assert_dangers(*MANY, "true")
        self.assertEqual(list(found.bad), [("late", "worn"), ("lost", "worn")])
        self.assertEqual(list(found.good), [("torn", "worn"), ("late", "lost", "torn")])

    def test_up_to_three_harms(self):
        words = ("late", "lost", "torn", "worn")
        sizes = set()
        for at, harms in enumerate(itertools.chain.from_iterable(itertools.combinations(words, size)
                                                                 for size in range(4))):
            keep = Keep(2, 1, harms)
            plans = [Plan((kind,), (0, 1), choice=choice, limit=limit, mends=at % 2 == 0)
                     for kind, choice, limit in zip(KINDS, ("newest", "most", "first", "newest"), (None, 1, None, 2))]
            for plan in plans + [TOGETHER[1]]:
                if graph_by_the_words(keep, plan) is not None:
                    found = self.assert_dangers(keep, plan, WISHES[at % 4])
                    sizes.update(len(part) for part in found.bad)
        self.assertEqual(sizes, {1, 2})
        for wish in WISHES:
            self.assert_dangers(Keep(1, 2, ("astray", "lost")), Plan(("named", "bare"), (0,)), wish)

    def test_just_so_many_states(self):
        for (keep, plan), wish in zip(AT_MOST, WISHES):
            self.assert_dangers(keep, plan, wish)

    def test_too_large_with_all_harms(self):
        for keep, plan in BEYOND:
            for ask in (dangers, least_dangers, greatest_safe):
                for wish in WISHES:
                    self.assert_refused(TooLarge, ask, keep, plan, wish=wish)
        keep, plan = BEYOND[0]
        for word in keep.harms:
            self.assertLess(len(all_states(keep - word, plan)), 400)

    def test_errors_in_their_order(self):
        large, plan = BEYOND[2]
        for ask in (dangers, least_dangers, greatest_safe, Dangers({}, {}).shows, Dangers({(): ()}, {(): []}).shows):
            for keep in (None, plan):
                self.assert_refused(BadKeep, ask, keep, None, wish=None, part=None)
            for odd in (None, large, BARE, plan.but("order", (0, 1, 2)), plan.but("sums", ("bare",))):
                self.assert_refused(BadPlan, ask, large, odd, wish=None, part=None)
            for wish in (None, True, 0, "", "True", b"true", ("true",), ["true"], EqualToAll(), WISHES):
                self.assert_refused(BadWish, ask, large, plan, wish=wish)


class ShowsTest(Case):
    def assert_shown(self, want, bad, good, keep=ONE, plan=WHOLE, wish="true"):
        self.assertIs(Dangers(bad, good).shows(keep, plan, wish=wish), want)

    def setUp(self):
        self.good = states_with(ONE, WHOLE, "worn")
        self.all = states_with(ONE, WHOLE, "lost", "worn")

    def test_as_told(self):
        self.assert_shown(True, {LOSES: [LOST]}, {WEARS: self.good})
        self.assert_shown(True, {LOSES: (ROUND, DONE, LOST)}, {WEARS: self.good[::-1] * 2})
        self.assert_shown(True, {LOSES: (ROUND, DONE, LOST)}, {WEARS: tuple(self.good)})

    def test_set_left_out(self):
        self.assert_shown(False, {}, {WEARS: self.good})
        self.assert_shown(False, {LOSES: [LOST]}, {})
        self.assert_shown(False, {}, {})
        for wish in WISHES:
            found = dangers(*MANY, wish=wish)
            for harms in found.bad:
                self.assert_shown(False, without(found.bad, harms), found.good, *MANY, wish=wish)
            for harms in found.good:
                self.assert_shown(False, found.bad, without(found.good, harms), *MANY, wish=wish)

    def test_set_put_in(self):
        for harms in ((), WEARS, BOTH, ("torn",), ("odd",), ("worn", "lost"), ("lost", "lost"), ("",)):
            for history in ((), (LOST,), (WEAR,)):
                self.assert_shown(False, {LOSES: [LOST], harms: history}, {WEARS: self.good})
                self.assert_shown(False, {harms: history}, {WEARS: self.good})
        for harms in ((), LOSES, BOTH, ("torn",), ("odd",), ("worn", "lost"), ("worn", "worn"), ("torn", "worn")):
            for states in (self.good, self.all, self.good[:1], []):
                self.assert_shown(False, {LOSES: [LOST]}, {WEARS: self.good, harms: states})
                self.assert_shown(False, {LOSES: [LOST]}, {harms: states})

    def test_empty_set(self):
        start = states_with(ONE, BARE)
        self.assert_shown(True, {LOSES: [LOST], WEARS: [WEAR]}, {(): start}, plan=BARE)
        self.assert_shown(False, {LOSES: [LOST], WEARS: [WEAR]}, {}, plan=BARE)
        self.assert_shown(False, {(): []}, {}, plan=BARE)
        self.assert_shown(False, {(): [LOST]}, {}, plan=BARE)
        self.assert_shown(False, {(): [ROUND]}, {(): start}, plan=BARE)
        self.assert_shown(False, {LOSES: [LOST], WEARS: [WEAR], (): []}, {(): start}, plan=BARE)

    def test_set_made_greater_or_smaller(self):
        found = dangers(*MANY)
        for harms in found.bad:
            rest = without(found.bad, harms)
            for other in (harms[:1], harms[1:], tuple(sorted((*harms, "torn"))), MANY[0].harms):
                self.assert_shown(False, {**rest, other: found.bad[harms]}, found.good, *MANY)
        for harms in found.good:
            rest = without(found.good, harms)
            for other in (harms[:-1], harms[1:], (), MANY[0].harms):
                for states in (found.good[harms], states_with(*MANY, *other)):
                    self.assert_shown(False, found.bad, {**rest, other: states}, *MANY)

    def test_histories(self):
        for history in ([], [DONE], [LOST, DONE], [WEAR], [WEAR, LOST], [LOST, ROUND, WEAR], [LOST, LOST], [("wear",)], [()],
                        [("write", 0, ("torn",))]):
            self.assert_shown(False, {LOSES: history}, {WEARS: self.good})
        self.assert_shown(True, {LOSES: [LOST, ROUND]}, {WEARS: self.good})
        # Harms beyond the set, also if the wish is not fulfilled with it alone.
        start = states_with(ONE, BARE)
        self.assert_shown(False, {LOSES: [WEAR], WEARS: [LOST]}, {(): start}, plan=BARE)
        self.assert_shown(False, {LOSES: [WEAR, ROUND, LOST], WEARS: [WEAR]}, {(): start}, plan=BARE)
        keep, plan = TOGETHER
        found = dangers(keep, plan)
        self.assert_shown(False, {LOSES: found.bad[BOTH]}, {WEARS: found.good[WEARS]}, keep, plan)

    def test_lists_of_states(self):
        for at in range(len(self.good)):
            self.assert_shown(False, {LOSES: [LOST]}, {WEARS: self.good[:at] + self.good[at + 1:]})
        for states in ([], self.all, self.good + [()], self.good + [(None, 0, (False,))],
                       self.good + [one(cell((0, 1), (0, 1)))], states_with(ONE, WHOLE)):
            self.assert_shown(False, {LOSES: [LOST]}, {WEARS: states})
        keep, plan = TOGETHER
        found = dangers(keep, plan)
        swapped = {LOSES: found.good[WEARS], WEARS: found.good[LOSES]}
        self.assert_shown(True, found.bad, found.good, keep, plan)
        self.assert_shown(False, found.bad, swapped, keep, plan)

    def test_dicts_in_any_order(self):
        found = dangers(*MANY)
        self.assert_shown(True, turned(found.bad), turned(found.good), *MANY)
        lists = {harms: list(history) for harms, history in found.bad.items()}
        self.assert_shown(True, turned(lists), found.good, *MANY)

    def test_other_questions(self):
        found = dangers(*MANY)
        keep, plan = MANY
        for wish in WISHES[1:]:
            self.assertIs(found.shows(keep, plan, wish=wish), False)
        self.assertIs(found.shows(keep - "torn", plan), False)
        self.assertIs(found.shows(Keep(2, 1, keep.harms, most=2), plan), False)
        self.assertIs(found.shows(keep, plan.but("choice", "first")), False)
        self.assertIs(dangers(keep - "torn", plan).shows(keep, plan), False)

    def test_also_with_more_states_than_are_looked_at_elsewhere(self):
        keep, plan = Keep.full(3, 2), Plan(("bare", "bare"), (0, 1, 2))
        bad = {(word,): [("write", 0, (word, word, word)[:1] + ("done", "done"))] for word in ("late", "lost", "torn")}
        bad[("worn",)] = [("wear", 0, 1, 0)]
        bad[("astray",)] = [("write", 0, ("astray", "done", "done"))]
        self.assert_shown(True, bad, {(): states_with(keep, plan)}, keep, plan)
        self.assert_shown(False, bad, {}, keep, plan)
        with self.assertRaises(TooLarge):
            dangers(keep, plan)


class AttributesTest(Case):
    def test_copied(self):
        bad, good = {LOSES: [LOST]}, {WEARS: states_with(ONE, WHOLE, "worn")}
        found = Dangers(bad, good)
        bad[LOSES].clear()
        bad.clear()
        good[WEARS].clear()
        good.clear()
        self.assertEqual(found.bad, {LOSES: (LOST,)})
        self.assertIs(found.shows(ONE, WHOLE), True)

    def test_changed_attributes_are_asked(self):
        found = dangers(ONE, WHOLE)
        last = found.good[WEARS].pop()
        self.assertIs(found.shows(ONE, WHOLE), False)
        found.good[WEARS].append(last)
        self.assertIs(found.shows(ONE, WHOLE), True)
        found.bad[LOSES] = [LOST, DONE]
        self.assertIs(found.shows(ONE, WHOLE), False)
        found.bad[LOSES].pop()
        self.assertIs(found.shows(ONE, WHOLE), True)
        found.bad = {}
        self.assertIs(found.shows(ONE, WHOLE), False)
        found.bad = {LOSES: [DONE, LOST]}
        self.assertIs(found.shows(ONE, WHOLE), True)
        found.good = {}
        self.assertIs(found.shows(ONE, WHOLE), False)

    def test_equality(self):
        parts = ({LOSES: (LOST,), WEARS: ()}, {(): [(1,)], BOTH: []})
        self.assert_equality(Dangers(*parts), Dangers({WEARS: [], LOSES: [LOST]}, {BOTH: (), (): ((1,),)}), True)
        for other in (({LOSES: (LOST,)}, parts[1]), (parts[0], {}), (parts[0], {(): [(1,)], BOTH: [()]}),
                      ({LOSES: (), WEARS: ()}, parts[1]), parts[::-1]):
            self.assert_equality(Dangers(*parts), Dangers(*other), False)
        for other in (Safe([]), Harmed([]), ONE, BARE):
            self.assert_equality(Dangers({}, {}), other, False)

    def test_goes_with_what_is_safe(self):
        for wish in WISHES:
            found = dangers(*MANY, wish=wish)
            for size in range(5):
                for harms in itertools.combinations(MANY[0].harms, size):
                    safe = is_safe(Keep(2, 1, harms), MANY[1], wish=wish)
                    self.assertEqual(safe, not any(set(part) <= set(harms) for part in found.bad))
                    self.assertEqual(safe, any(set(part) >= set(harms) for part in found.good))
