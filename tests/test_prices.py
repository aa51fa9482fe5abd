"""Promise 9: what plans cost, the offers beside a plan, and the cheapest one with which a wish is always fulfilled."""

import itertools

from answers import cheapest_by_the_words, cost_by_the_words, offers_by_the_words
from builders import CHOICES, KINDS, EqualToAll
from cases import Case, turned, without
from sizes import BEYOND

from quietharm.deeds import all_states
from quietharm.errors import BadKeep, BadPlan, BadPrices, BadWish, TooLarge
from quietharm.judging import WISHES, Harmed, Safe, is_safe
from quietharm.keeps import Keep, Plan
from quietharm.prices import Cheapest, NoPlan, cheapest, cost, least_cost, offers

PRICES = {"bare": 0, "whole": 1, "named": 2, "noted": 3, "mends": 5}
FREE = {"bare": 0, "whole": 0, "named": 0, "noted": 0, "mends": 0}
DEAR = {"bare": 9, "whole": 9, "named": 9, "noted": 9, "mends": 9}
LISTS = (PRICES, FREE, DEAR, {"bare": 9, "whole": 4, "named": 4, "noted": 0, "mends": 0},
         {"bare": 2, "whole": 1, "named": 2, "noted": 1, "mends": 1})
ONE = Keep(1, 1, ("worn",))
PLAN = Plan(("bare",), (0,), mends=False)
TWO = Keep(2, 2, ("lost",))
BOTH = Plan(("whole", "noted"), (1, 0), choice="newest", limit=2)
WEAR, ROUND = ("wear", 0, 0, 0), ("round",)
BARE, WHOLE = (("bare",), False), (("whole",), False)
# More than 400 states come about just with the offer with notes that does not mend.
LARGE = Keep(2, 1, ("torn", "worn"))
MOST = Plan(("noted",), (0, 1), choice="most", limit=2)
# No prices: a key fewer, a key more, another one in its place, or one with another value.
ODD_PRICES = ([without(PRICES, name) for name in PRICES] + [{}, {**PRICES, "worn": 1}, {**PRICES, 0: 1}]
              + [{**without(PRICES, name), "Bare": 1} for name in PRICES]
              + [{**without(PRICES, "mends"), odd: 1} for odd in (None, 0, True, ("mends",), b"mends", EqualToAll)]
              + [{**PRICES, name: odd} for name in PRICES for odd in (-1, 10, True, False, "1", None, (1,), [1], 10 ** 30)]
              + [None, 0, True, "", "bare", (), [], list(PRICES.items()), tuple(PRICES.items()), list(PRICES), object(),
                 {"bare", "whole", "named", "noted", "mends"}, PLAN, EqualToAll()])


class CostTest(Case):
    def test_one_block_and_two(self):
        for told, want in ((PLAN, 0), (PLAN.but("mends", True), 5), (PLAN.but("sums", ("noted",)), 3),
                           (BOTH, 9), (BOTH.but("mends", False), 4), (BOTH.but("sums", ("named", "named")), 9)):
            self.assertEqual(cost(told, PRICES), want)
        self.assertEqual((cost(BOTH, DEAR), cost(BOTH, FREE), cost(PLAN, DEAR)), (27, 0, 9))

    def test_all_sums(self):
        for sums in itertools.chain.from_iterable(itertools.product(KINDS, repeat=size) for size in (1, 2)):
            for mends, prices in itertools.product((True, False), LISTS):
                plan = Plan(sums, (0,), mends=mends)
                self.assertEqual(cost(plan, prices), cost_by_the_words(plan, prices))
                self.assertEqual(cost(plan, turned(prices)), cost(plan, prices))

    def test_errors_in_their_order(self):
        for plan in (None, ONE, "bare", ("bare",), EqualToAll()):
            for prices in (PRICES, None):
                self.assert_refused(BadPlan, cost, plan, prices, part=None)
        for prices in ODD_PRICES:
            self.assert_refused(BadPrices, cost, PLAN, prices)


class OffersTest(Case):
    def test_by_hand(self):
        found = offers(ONE, PLAN, PRICES)
        self.assertEqual([(offer.sums[0], offer.mends) for offer in found],
                         [("bare", False), ("whole", False), ("named", False), ("noted", False),
                          ("bare", True), ("whole", True), ("named", True), ("noted", True)])
        found = offers(ONE, PLAN, FREE)
        self.assertEqual([(offer.sums[0], offer.mends) for offer in found],
                         [(kind, mends) for kind in KINDS for mends in (False, True)])
        self.assertEqual([offer.sums for offer in offers(TWO, BOTH, FREE)][::2], list(itertools.product(KINDS, repeat=2)))
        self.assertEqual([offer.mends for offer in offers(TWO, BOTH, DEAR)], [False] * 16 + [True] * 16)

    def test_by_the_words(self):
        for prices in LISTS:
            for keep, plan in ((ONE, PLAN), (TWO, BOTH), (Keep(3, 2), Plan(("bare", "named"), (2, 0, 1)))):
                found = offers(keep, plan, prices)
                self.assertEqual(found, offers_by_the_words(plan, prices))
                self.assertEqual(offers(keep, plan, turned(prices)), found)
                self.assertTrue(all(isinstance(offer, Plan) for offer in found))
                self.assertEqual(found.count(plan), 1)
                self.assertEqual(len(found), 2 * 4 ** keep.blocks)

    def test_order_choice_and_limit_stay(self):
        for order, choice, limit in itertools.product(((0, 1), (1, 0)), CHOICES, (None, 1, 2)):
            plan = Plan(("bare", "bare"), order, choice=choice, limit=limit)
            for offer in offers(TWO, plan, PRICES):
                self.assertEqual((offer.order, offer.choice, offer.limit), (order, choice, limit))

    def test_list_is_new(self):
        self.assertEqual(len(self.assert_unchanged(offers, TWO, BOTH, PRICES)), 32)

    def test_errors_in_their_order(self):
        for keep in (None, PLAN, 1):
            self.assert_refused(BadKeep, offers, keep, None, None, part=None)
        for plan in (None, TWO, PLAN, BOTH.but("order", (0, 1, 2)), BOTH.but("sums", ("bare",))):
            self.assert_refused(BadPlan, offers, TWO, plan, None, part=None)
        for prices in ODD_PRICES:
            self.assert_refused(BadPrices, offers, TWO, BOTH, prices)


class CheapestTest(Case):
    def assert_cheapest(self, keep, plan, prices, wish):
        """What is told, after seeing that it is as the words say."""
        want = cheapest_by_the_words(keep, plan, prices, wish)
        if want is None:
            for ask in (cheapest, least_cost):
                self.assert_refused(TooLarge, ask, keep, plan, prices, wish=wish)
            return None
        found = self.assert_unchanged(cheapest, keep, plan, prices, wish=wish)
        self.assertEqual(least_cost(keep, plan, prices, wish=wish), want[0])
        self.assertIsInstance(found, NoPlan if want[0] is None else Cheapest)
        self.assertEqual(list(found.histories), want[1])
        self.assertIs(found.shows(keep, plan, prices, wish=wish), True)
        for (sums, mends), history in found.histories.items():
            self.assertIsInstance(history, tuple)
            self.assertTrue(Harmed(history).shows(keep, plan.but("sums", sums).but("mends", mends), wish=wish))
        if want[0] is not None:
            self.assertEqual(cost(found.plan, prices), want[0])
            self.assertIn(found.plan, offers(keep, plan, prices))
            self.assertTrue(Safe(found.states).shows(keep, found.plan, wish=wish))
        return found

    def test_by_hand(self):
        found = self.assert_cheapest(ONE, PLAN, PRICES, "true")
        self.assertEqual(found.plan, PLAN.but("sums", ("whole",)))
        self.assertEqual(list(found.histories), [BARE])
        self.assertEqual(len(found.histories[BARE]), 1)
        self.assertEqual(found.histories[BARE][0][0], "wear")
        found = self.assert_cheapest(ONE, PLAN, PRICES, "open")
        self.assertEqual((found.plan, found.histories), (PLAN, {}))
        found = self.assert_cheapest(ONE, PLAN, PRICES, "left")
        self.assertIsInstance(found, NoPlan)
        self.assertEqual(list(found.histories), [(offer.sums, offer.mends) for offer in offers(ONE, PLAN, PRICES)])

    def test_wish_that_is_not_told_is_the_first_one(self):
        self.assertEqual(cheapest(ONE, PLAN, PRICES), cheapest(ONE, PLAN, PRICES, wish="true"))
        self.assertEqual(least_cost(ONE, PLAN, PRICES), 1)
        self.assertTrue(cheapest(ONE, PLAN, PRICES).shows(ONE, PLAN, PRICES))

    def test_all_wishes(self):
        keeps = [(ONE, PLAN), (Keep(2, 1, ("lost", "torn")), Plan(("noted",), (1, 0), choice="newest")),
                 (Keep(2, 1, ("lost",), most=2), Plan(("bare",), (0, 1), choice="most", limit=1)),
                 (Keep(1, 2, ("astray",)), Plan(("bare", "noted"), (0,), limit=2)),
                 (Keep(3, 1, ("worn",), most=0), Plan(("named",), (0, 2, 1)))]
        kinds = []
        for (keep, plan), (at, wish) in itertools.product(keeps, enumerate(WISHES)):
            for prices in (LISTS[at], LISTS[4]):
                with self.subTest(keep=vars(keep), plan=vars(plan), wish=wish):
                    kinds.append(type(self.assert_cheapest(keep, plan, prices, wish)))
        self.assertGreater(min(kinds.count(kind) for kind in (NoPlan, Cheapest)), 5)

    def test_one_of_several_cheapest(self):
        for prices in (FREE, DEAR, {**PRICES, "whole": 0, "mends": 0}):
            found = self.assert_cheapest(ONE, PLAN, prices, "true")
            self.assertEqual(found.histories, {})
        keep, prices = Keep(2, 1, ("torn",)), {**PRICES, "whole": 2, "named": 2, "noted": 2, "mends": 0}
        found = self.assert_cheapest(keep, Plan(("bare",), (0, 1)), prices, "true")
        self.assertEqual(sorted(found.histories), [(("bare",), False), (("bare",), True)])
        for kind, mends in itertools.product(("whole", "named", "noted"), (False, True)):
            plan = found.plan.but("sums", (kind,)).but("mends", mends)
            told = Cheapest(plan, all_states(keep, plan), found.histories)
            self.assertIs(told.shows(keep, found.plan, prices), is_safe(keep, plan))

    def test_plan_itself_does_not_matter_but_for_what_stays(self):
        keep = Keep(2, 1, ("lost", "torn"))
        plan = Plan(("bare",), (0, 1), choice="newest")
        for kind, mends in itertools.product(KINDS, (True, False)):
            self.assertEqual(least_cost(keep, plan.but("sums", (kind,)).but("mends", mends), PRICES), 1)
        self.assertEqual([least_cost(keep, plan.but("choice", choice), PRICES) for choice in CHOICES], [3, 1, 3])
        self.assertEqual([least_cost(keep, plan.but("limit", limit), PRICES, wish="left") for limit in (None, 1)], [0, 3])

    def test_too_large_on_the_way(self):
        for name, prices in (("later", {**PRICES, "mends": 9}), ("later", {**FREE, "noted": 1}),
                             ("on the way", {**DEAR, "noted": 0}), ("same cost, later", FREE)):
            with self.subTest(name=name):
                found = self.assert_cheapest(LARGE, MOST, prices, "true")
                self.assertEqual(found is None, name == "on the way")
        self.assertIsNone(self.assert_cheapest(LARGE, MOST, PRICES, "left"))
        self.assertEqual(least_cost(LARGE, MOST, {**PRICES, "mends": 0}, wish="open"), 0)

    def test_too_large_just_before_or_behind_the_first_safe_one(self):
        keep, plan = Keep(3, 1, ("late", "worn")), Plan(("noted",), (2, 1, 0))
        prices = {"bare": 9, "whole": 9, "named": 9, "noted": 0, "mends": 0}
        self.assertIsNone(self.assert_cheapest(keep, plan, prices, "left"))
        self.assertTrue(is_safe(keep, plan, wish="left"))
        with self.assertRaises(TooLarge):
            is_safe(keep, plan.but("mends", False), wish="left")

    def test_too_large_with_all_offers(self):
        for keep, plan in BEYOND[2:]:
            for ask in (cheapest, least_cost):
                for wish in WISHES:
                    self.assert_refused(TooLarge, ask, keep, plan, PRICES, wish=wish)

    def test_errors_in_their_order(self):
        large, plan = BEYOND[2]
        asked = [cheapest, least_cost, Cheapest(plan, [], {}).shows, NoPlan({}).shows]
        for ask in asked:
            for keep in (None, plan):
                self.assert_refused(BadKeep, ask, keep, None, None, wish=None, part=None)
            for odd in (None, large, PLAN, plan.but("order", (0, 1, 2)), plan.but("sums", ("bare",))):
                self.assert_refused(BadPlan, ask, large, odd, None, wish=None, part=None)
            for prices in ODD_PRICES:
                self.assert_refused(BadPrices, ask, large, plan, prices, wish=None)
            for wish in (None, True, 0, "", "True", b"true", ("true",), ["true"], EqualToAll(), WISHES):
                self.assert_refused(BadWish, ask, large, plan, PRICES, wish=wish)


class ShowsTest(Case):
    def setUp(self):
        self.plan = PLAN.but("sums", ("whole",))
        self.states = all_states(ONE, self.plan)
        self.histories = {BARE: [WEAR]}

    def assert_shown(self, want, plan=None, states=None, histories=None, prices=PRICES, wish="true"):
        told = Cheapest(self.plan if plan is None else plan, self.states if states is None else states,
                        self.histories if histories is None else histories)
        self.assertIs(told.shows(ONE, PLAN, prices, wish=wish), want)

    def test_as_told(self):
        self.assert_shown(True)
        self.assert_shown(True, states=self.states[::-1] * 2)
        self.assert_shown(True, histories={BARE: (ROUND, WEAR)})
        self.assert_shown(True, prices=turned(PRICES))
        self.assertIs(Cheapest(PLAN, all_states(ONE, PLAN), {}).shows(ONE, self.plan, PRICES, wish="open"), True)

    def test_states(self):
        for at in range(len(self.states)):
            self.assert_shown(False, states=self.states[:at] + self.states[at + 1:])
        self.assert_shown(False, states=[])
        for odd in ((), (1,), self.states[0][:2], (self.states[0][0], 2, (False,)), (None, None, None)):
            self.assert_shown(False, states=self.states + [odd])
            self.assert_shown(False, states=[odd])

    def test_histories(self):
        for history in ((), (ROUND,), (WEAR, ROUND, ("write", 0, ("done",))), (WEAR, WEAR), (("wear", 0, 0, 2),), (WEAR, ()),
                        ((),), (("wear",),), (("write", 0, ("lost",)),), ((WEAR,),)):
            self.assert_shown(False, histories={BARE: history})
        self.assert_shown(False, histories={})
        for key in (WHOLE, (("bare",), True), (("named",), False), (("bare", "bare"), False), ((), False), (("odd",), True)):
            for history in ((WEAR,), ()):
                self.assert_shown(False, histories={BARE: (WEAR,), key: history})
                self.assert_shown(False, histories={key: history})

    def test_plans(self):
        for plan in (PLAN, PLAN.but("mends", True), self.plan.but("choice", "most"), self.plan.but("limit", 1),
                     BOTH, Plan(("whole",), (0, 1)), self.plan.but("mends", True), self.plan.but("sums", ("named",))):
            self.assert_shown(False, plan=plan)
        dearer = self.plan.but("sums", ("named",))
        told = {BARE: (WEAR,), WHOLE: (WEAR,)}
        self.assert_shown(False, plan=dearer, states=all_states(ONE, dearer), histories=told)
        same = {**PRICES, "named": 1}
        self.assert_shown(True, plan=dearer, states=all_states(ONE, dearer), prices=same)
        self.assert_shown(False, plan=dearer, states=all_states(ONE, dearer), histories=told, prices=same)
        self.assert_shown(True, plan=dearer, states=all_states(ONE, dearer), prices={**PRICES, "whole": 7})

    def test_other_questions(self):
        for wish in WISHES[1:]:
            self.assert_shown(False, wish=wish)
        self.assert_shown(False, prices=FREE)
        self.assert_shown(False, prices={**PRICES, "bare": 1})
        self.assert_shown(False, prices={**PRICES, "bare": 9, "mends": 0})
        found = Cheapest(self.plan, self.states, self.histories)
        self.assertIs(found.shows(Keep(1, 1, ("torn", "worn")), PLAN, PRICES), False)
        self.assertIs(found.shows(ONE, PLAN.but("choice", "most"), PRICES), False)
        self.assertIs(found.shows(Keep(2, 1, ("worn",)), Plan(("bare",), (0, 1)), PRICES), False)

    def test_cheaper_offers_in_any_order(self):
        keep, plan = Keep(2, 1, ("lost", "torn")), Plan(("bare",), (0, 1))
        found = cheapest(keep, plan, {**PRICES, "mends": 0}, wish="true")
        self.assertEqual(len(found.histories), 6)
        for order in list(itertools.permutations(found.histories))[::7]:
            told = Cheapest(found.plan, found.states, {key: list(found.histories[key]) for key in order})
            self.assertIs(told.shows(keep, plan, {**PRICES, "mends": 0}), True)
            for key in order:
                told = Cheapest(found.plan, found.states, without(found.histories, key))
                self.assertIs(told.shows(keep, plan, {**PRICES, "mends": 0}), False)

    def test_no_plan(self):
        found = cheapest(ONE, PLAN, PRICES, wish="left")
        for told in (found.histories, turned(found.histories), {key: [ROUND, WEAR] for key in found.histories}):
            self.assertIs(NoPlan(told).shows(ONE, PLAN, PRICES, wish="left"), True)
            self.assertIs(NoPlan(told).shows(ONE, self.plan, FREE, wish="left"), True)
            self.assertIs(NoPlan(told).shows(ONE, PLAN, PRICES), False)
        for key in found.histories:
            self.assertIs(NoPlan(without(found.histories, key)).shows(ONE, PLAN, PRICES, wish="left"), False)
            for history in ((), (WEAR, WEAR), (ROUND,), (WEAR, ("write", 0, ("done",)))):
                told = NoPlan({**found.histories, key: history})
                self.assertIs(told.shows(ONE, PLAN, PRICES, wish="left"), False)
        for key in ((("bare", "bare"), True), ((), False), (("odd",), False)):
            self.assertIs(NoPlan({**found.histories, key: (WEAR,)}).shows(ONE, PLAN, PRICES, wish="left"), False)
        self.assertIs(NoPlan({}).shows(ONE, PLAN, PRICES, wish="left"), False)

    def test_also_with_more_states_than_are_looked_at_elsewhere(self):
        keep = Keep(2, 1, ("worn",), most=2)
        found = cheapest(keep, Plan(("bare",), (0, 1)), PRICES, wish="left")
        large = Keep(2, 1, ("late", "lost", "torn", "worn"), most=2)
        self.assertIs(found.shows(large, Plan(("bare",), (0, 1)), PRICES, wish="left"), True)
        with self.assertRaises(TooLarge):
            cheapest(large, Plan(("bare",), (0, 1)), PRICES, wish="left")


class AttributesTest(Case):
    def test_copied(self):
        states, histories = [(1,)], {BARE: [WEAR]}
        found, none = Cheapest(PLAN, states, histories), NoPlan(histories)
        states.clear()
        histories[BARE].clear()
        histories.clear()
        self.assertEqual((found.plan, found.states, found.histories), (PLAN, [(1,)], {BARE: (WEAR,)}))
        self.assertEqual(none.histories, {BARE: (WEAR,)})

    def test_changed_attributes_are_asked(self):
        found = cheapest(ONE, PLAN, PRICES)
        for name, wrong, good in (("states", [], found.states * 2), ("plan", PLAN, PLAN.but("sums", ("whole",))),
                                  ("histories", {}, {BARE: [ROUND, WEAR]})):
            setattr(found, name, wrong)
            self.assertIs(found.shows(ONE, PLAN, PRICES), False)
            setattr(found, name, good)
            self.assertIs(found.shows(ONE, PLAN, PRICES), True)
        found.histories[BARE].pop()
        self.assertIs(found.shows(ONE, PLAN, PRICES), False)
        none = cheapest(ONE, PLAN, PRICES, wish="left")
        kept = none.histories.pop(BARE)
        self.assertIs(none.shows(ONE, PLAN, PRICES, wish="left"), False)
        none.histories[BARE] = list(kept)
        self.assertIs(none.shows(ONE, PLAN, PRICES, wish="left"), True)

    def test_equality(self):
        parts = (PLAN, [(1,)], {BARE: (WEAR,), WHOLE: ()})
        self.assert_equality(Cheapest(*parts), Cheapest(Plan(("bare",), (0,), mends=False), [(1,)], turned(parts[2])), True)
        for at, other in ((0, PLAN.but("mends", True)), (1, []), (1, [(1,), (1,)]), (2, {}), (2, {BARE: ()}),
                          (2, {BARE: (WEAR,), WHOLE: (WEAR,)})):
            self.assert_equality(Cheapest(*parts), Cheapest(*parts[:at], other, *parts[at + 1:]), False)
        self.assert_equality(NoPlan(parts[2]), NoPlan({WHOLE: [], BARE: [WEAR]}), True)
        self.assert_equality(NoPlan(parts[2]), NoPlan({}), False)
        self.assert_equality(NoPlan({}), Cheapest(PLAN, [], {}), False)
        self.assert_equality(NoPlan({}), Safe([]), False)
