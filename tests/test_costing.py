"""Promise 16: what harms cost, and the least price of a history after which a wish is not fulfilled."""

import itertools

from answers import graph_by_the_words, least_price_by_the_words, price_by_the_words
from builders import KINDS, EqualToAll, cell, one, right
from cases import Case, turned, without
from model import closed, harms_by_the_words, wishes_by_the_words
from sizes import AT_MOST, BEYOND

from quietharm.costing import Costly, costing, least_price, price_of
from quietharm.deeds import all_states, harms_in
from quietharm.errors import BadHistory, BadKeep, BadPlan, BadPrices, BadWish, TooLarge
from quietharm.judging import WISHES, Harmed, Safe, fewest, fulfils
from quietharm.keeps import Keep, Plan
from quietharm.states import first_state

TWO, BARE = Keep(2, 1, ("lost", "worn")), Plan(("bare",), (0, 1), choice="newest")
PRICES = {"lost": 3, "worn": 1}
LOST, ROUND, WEAR, DONE = ("write", 0, ("lost", "done")), ("round",), ("wear", 1, 0, 0), ("write", 0, ("done", "done"))
FRONT = ("wear", 0, 0, 1)
START = first_state(TWO, BARE)
# The wish "left" fails soonest with one harm that costs 4, and cheapest with two that cost 1 each.
CHEAP = Keep(2, 1, ("late", "torn")), Plan(("named",), (1, 0), limit=1), {"late": 4, "torn": 1}
ODD_PRICES = ([{}, {"lost": 3}, {"worn": 1}, {**PRICES, "torn": 1}, {**PRICES, "done": 0}, {**PRICES, 0: 1},
               {"lost": 3, "Worn": 1}, {"lost": 3, "torn": 1}, {"lost": 3, None: 1}, {"lost": 3, ("worn",): 1}]
              + [{**PRICES, word: odd} for word in PRICES for odd in (-1, 10, True, False, "1", None, (1,), [1], 10 ** 30)]
              + [None, 0, True, "", "lost", (), [], list(PRICES.items()), tuple(PRICES.items()), ("lost", "worn"), object(),
                 {"lost", "worn"}, TWO, EqualToAll()])


class PriceOfTest(Case):
    def test_by_hand(self):
        for history, want in (([], 0), ([LOST], 3), ([LOST, ROUND, WEAR], 4), ([WEAR, ROUND] * 3, 3), ((DONE, ROUND), 0),
                              ((LOST, ROUND) * 5, 15)):
            self.assertEqual(self.assert_unchanged(price_of, TWO, BARE, PRICES, history), want)
            self.assertEqual(price_of(TWO, BARE, turned(PRICES), history), want)
        keep = Keep(3, 2, ("astray", "late", "lost", "torn"), most=2)
        plan, prices = Plan(("bare", "whole"), (0, 1, 2)), {"astray": 9, "late": 0, "lost": 2, "torn": 4}
        history = [("write", 0, ("astray", "late", "done")), ("land", 1, 0), ROUND, ("write", 1, ("torn", "lost", "done")),
                   ROUND, ("write", 0, ("torn", "done", "torn"))]
        self.assertEqual(price_of(keep, plan, prices, history), 23)
        self.assertEqual(price_of(Keep(1, 1), Plan(("bare",), (0,)), {}, [ROUND]), 0)

    def test_what_is_no_history(self):
        for odd in (None, True, 0, "", {}, {ROUND: 0}, object(), iter([]), EqualToAll()):
            self.assert_refused(BadHistory, price_of, TWO, BARE, PRICES, odd, index=None)
        history = [LOST, ROUND, WEAR]
        for at in range(4):
            for odd in (None, "round", ["round"], ("land", 0, 0), ("wear", 0, 0, 2), ("write", 0, ("torn", "done")), {}):
                self.assert_refused(BadHistory, price_of, TWO, BARE, PRICES, history[:at] + [odd] + history[at:], index=at)
        self.assert_refused(BadHistory, price_of, TWO, BARE, PRICES, (LOST, WEAR), index=1)

    def test_errors_in_their_order(self):
        for keep in (None, BARE):
            self.assert_refused(BadKeep, price_of, keep, None, None, None, part=None)
        for plan in (None, TWO, BARE.but("order", (0,)), BARE.but("sums", ("bare", "bare"))):
            self.assert_refused(BadPlan, price_of, TWO, plan, None, None, part=None)
        for prices in ODD_PRICES:
            self.assert_refused(BadPrices, price_of, TWO, BARE, prices, None)
        self.assert_refused(BadPrices, price_of, Keep(2, 1), BARE, PRICES, None)

    def test_never_too_large(self):
        for keep, plan in BEYOND:
            prices = dict.fromkeys(keep.harms, 9)
            self.assertEqual(price_of(keep, plan, prices, [ROUND] * 300), 0)


class CostingTest(Case):
    def assert_costing(self, keep, plan, prices, wish, graph=None):
        """The least price, after seeing that all that is told is as the words say."""
        graph = graph or graph_by_the_words(keep, plan)
        want = least_price_by_the_words(plan, graph, prices, wish)
        found = self.assert_unchanged(costing, keep, plan, prices, wish=wish)
        self.assertEqual(least_price(keep, plan, prices, wish=wish), want)
        if want is None:
            self.assertIsInstance(found, Safe)
            self.assertIs(found.shows(keep, plan, wish=wish), True)
            return None
        self.assertIsInstance(found, Costly)
        self.assertIsInstance(found.history, tuple)
        self.assertIs(found.shows(keep, plan, prices, wish=wish), True)
        self.assertIs(found.shows(keep, plan, turned(prices), wish=wish), True)
        self.assertEqual((found.price, price_of(keep, plan, prices, found.history)), (want, want))
        self.assertIs(Harmed(found.history).shows(keep, plan, wish=wish), True)
        for told, floor in found.floors.items():
            self.assertNotIsInstance(floor, bool)
            for deed, later in graph[told]:
                self.assertGreaterEqual(found.floors[later] + price_by_the_words(prices, deed), floor)
        return want

    def test_by_hand(self):
        self.assertEqual(self.assert_costing(TWO, BARE, PRICES, "true"), 1)
        self.assertIsNone(self.assert_costing(TWO - "worn", BARE, {"lost": 3}, "true"))
        for prices, want in (({"lost": 0, "worn": 9}, 9), ({"lost": 9, "worn": 0}, 0), ({"lost": 5, "worn": 5}, 5)):
            self.assertEqual(self.assert_costing(TWO, BARE, prices, "true"), want)

    def test_wish_that_is_not_told_is_the_first_one(self):
        self.assertEqual(costing(TWO, BARE, PRICES), costing(TWO, BARE, PRICES, wish="true"))
        self.assertEqual(least_price(TWO, BARE, PRICES), 1)
        self.assertTrue(costing(TWO, BARE, PRICES).shows(TWO, BARE, PRICES))

    def test_more_harms_for_less(self):
        keep, plan, prices = CHEAP
        self.assertEqual(self.assert_costing(keep, plan, prices, "left"), 2)
        self.assertEqual(fewest(keep, plan, wish="left"), 1)
        self.assertEqual(harms_in(keep, plan, costing(keep, plan, prices, wish="left").history), 2)
        self.assertEqual(self.assert_costing(keep, plan, {"late": 1, "torn": 1}, "left"), 1)
        self.assertEqual(self.assert_costing(keep, plan, {"late": 9, "torn": 0}, "left"), 0)
        self.assertEqual(self.assert_costing(keep, plan, {"late": 9, "torn": 9}, "left"), 9)

    def test_without_harms(self):
        for keep in (Keep(2, 2, (), most=2), Keep.full(2, 2, most=0)):
            for wish in WISHES:
                plan = Plan(("noted", "bare"), (0, 1), limit=1)
                self.assertIsNone(self.assert_costing(keep, plan, dict.fromkeys(keep.harms, 0), wish))

    def test_keeps_and_plans(self):
        found = []
        rows = itertools.cycle([(3, 8), (0, 9), (7, 2), (1, 1), (9, 5), (4, 6), (6, 0)])
        for keep in (Keep(2, 1, ("late", "torn")), Keep(2, 1, ("lost",), most=2), Keep(1, 2, ("astray", "lost")),
                     Keep(3, 1, ("lost",)), Keep(2, 1, ("torn", "worn"))):
            for kind, choice, limit in zip(KINDS, ("first", "newest", "most", "first"), (1, None, 2, None)):
                plan = Plan((kind,) * keep.blocks, tuple(range(keep.shelves))[::-1], choice=choice, limit=limit)
                graph = graph_by_the_words(keep, plan)
                for wish in WISHES if graph else ():
                    prices = dict(zip(keep.harms, next(rows)))
                    found.append(self.assert_costing(keep, plan, prices, wish, graph))
                    same = dict.fromkeys(keep.harms, 1)
                    self.assertEqual(self.assert_costing(keep, plan, same, wish, graph), fewest(keep, plan, wish=wish))
        self.assertIn(None, found)
        self.assertGreater(len(set(found)), 5)
        keep, plan = AT_MOST[0]
        self.assert_costing(keep, plan, dict(zip(keep.harms, (2, 7, 1))), "true")

    def test_too_large(self):
        for (keep, plan), wish in zip(BEYOND, WISHES * 2):
            for ask in (costing, least_price):
                self.assert_refused(TooLarge, ask, keep, plan, dict.fromkeys(keep.harms, 1), wish=wish)

    def test_errors_in_their_order(self):
        large, plan = Keep(2, 2, ("lost", "worn"), most=2), Plan(("bare", "named"), (0, 1))
        for ask in (costing, least_price, Costly(0, (), {}).shows, Costly(1, (LOST,), {START: 1}).shows):
            for keep in (None, plan):
                self.assert_refused(BadKeep, ask, keep, None, None, wish=None, part=None)
            for odd in (None, large, BARE, plan.but("order", (0, 1, 2)), plan.but("sums", ("bare",))):
                self.assert_refused(BadPlan, ask, large, odd, None, wish=None, part=None)
            for prices in ODD_PRICES:
                self.assert_refused(BadPrices, ask, large, plan, prices, wish=None)
            for wish in (None, True, 0, "", "True", b"true", ("true",), ["true"], EqualToAll(), WISHES):
                self.assert_refused(BadWish, ask, large, plan, PRICES, wish=wish)


class ShowsTest(Case):
    def setUp(self):
        keep, plan, prices = CHEAP
        self.found = costing(keep, plan, prices, wish="left")

    def assert_shown(self, want, price=None, history=None, floors=None, wish="left"):
        keep, plan, prices = CHEAP
        found = self.found
        told = Costly(found.price if price is None else price, found.history if history is None else history,
                      found.floors if floors is None else floors)
        self.assertIs(told.shows(keep, plan, prices, wish=wish), want)

    def test_as_told(self):
        self.assert_shown(True)
        self.assert_shown(True, history=[ROUND, DONE, *self.found.history])
        self.assert_shown(True, floors=turned(self.found.floors))

    def test_prices(self):
        keep, plan, prices = CHEAP
        start = first_state(keep, plan)
        for price in (-1, 0, 1, 3, 4, 10):
            self.assert_shown(False, price=price)
            self.assert_shown(False, price=price, floors={**self.found.floors, start: price})
            floors = {told: min(floor, price) for told, floor in self.found.floors.items()}
            self.assert_shown(False, price=price, floors=floors)
        dear = [("write", 0, ("done", "late")), ROUND]
        self.assertEqual(price_of(keep, plan, prices, dear), 4)
        self.assertIs(Harmed(dear).shows(keep, plan, wish="left"), True)
        self.assert_shown(False, price=4, history=dear)
        self.assert_shown(False, history=dear)
        self.assert_shown(False, price=4, history=dear, floors={**self.found.floors, start: 4})

    def test_histories(self):
        history = list(self.found.history)
        for size in range(len(history)):
            self.assert_shown(False, history=history[:size])
        for odd in (history + [DONE], history + [("land", 0, 0)], [("wear", 0, 0, 0)] + history, history * 2,
                    [("write", 0, ("torn", "done")), ROUND] + history, [("write", 0, ("lost", "done"))], []):
            self.assert_shown(False, history=odd)

    def test_floors(self):
        keep, plan, prices = CHEAP
        start = first_state(keep, plan)
        for told, floor in self.found.floors.items():
            self.assert_shown(False, floors=without(self.found.floors, told))
            self.assert_shown(False, floors={**self.found.floors, told: -1})
            self.assert_shown(False, floors={**self.found.floors, told: bool(floor)})
            if not fulfils(keep, plan, told, wish="left"):
                self.assertEqual(floor, 0)
                self.assert_shown(False, floors={**self.found.floors, told: 1})
        for other in (0, 1, 3, -1):
            self.assert_shown(False, floors={**self.found.floors, start: other})
        self.assert_shown(False, floors={})
        self.assert_shown(False, floors={start: 2})
        self.assert_shown(False, floors={told: 0 for told in self.found.floors})

    def is_held(self, floors):
        """Whether floors are as the words say."""
        keep, plan, prices = CHEAP
        graph = graph_by_the_words(keep, plan)
        return all("left" in wishes_by_the_words(plan, told) or floors[told] == 0 for told in floors) and all(
            floors[later] + price_by_the_words(prices, deed) >= floors[told]
            for told in floors for deed, later in graph[told]) and floors[first_state(keep, plan)] == 2

    def test_each_floor_made_smaller_or_greater(self):
        seen = []
        for told, floor in self.found.floors.items():
            for other in range(0, 5):
                held = {**self.found.floors, told: other}
                want = self.is_held(held)
                seen.append(want and other != floor)
                self.assert_shown(want, floors=held)
        self.assertIn(True, seen)

    def test_more_states_than_come_about(self):
        keep, plan, prices = CHEAP
        odd = one(cell((0, 1), (0, 1)), right())
        more = [told for told in closed(keep, plan, [odd, *self.found.floors]) if told not in self.found.floors]
        self.assertGreater(len(more), 0)
        self.assert_shown(True, floors={**self.found.floors, **{told: 0 for told in more}})
        self.assert_shown(len(more) == 1, floors={**self.found.floors, odd: 0})
        worn = one(cell(None, None), cell(None, None))
        more = [told for told in closed(keep, plan, [worn, *self.found.floors]) if told not in self.found.floors]
        self.assert_shown(True, floors={**self.found.floors, **{told: 0 for told in more}})
        self.assert_shown(False, floors={**self.found.floors, **{told: 0 for told in more}, worn: 1})

    def test_what_is_no_state(self):
        for odd in (None, (), 0, START[:2], (START[0], 2, START[2]), one(right(note=0), right(note=0))):
            self.assert_shown(False, floors={**self.found.floors, odd: 0})

    def test_other_questions(self):
        keep, plan, prices = CHEAP
        for wish in WISHES:
            # A history and floors for one wish may happen to be right for another one, too.
            self.assert_shown(wish in ("left", "open"), wish=wish)
        for other in ({"late": 1, "torn": 1}, {"late": 4, "torn": 2}, {"late": 0, "torn": 1}):
            self.assertIs(self.found.shows(keep, plan, other, wish="left"), False)
        self.assertIs(self.found.shows(keep, plan, {"late": 9, "torn": 1}, wish="left"), True)
        self.assertIs(self.found.shows(keep, plan.but("limit", 2), prices, wish="left"), False)
        self.assertIs(self.found.shows(Keep(2, 1, ("late", "torn"), most=2), plan, prices, wish="left"), False)

    def test_also_with_more_states_than_are_looked_at_elsewhere(self):
        keep, plan = BEYOND[1]
        states = graph_by_the_words(keep, plan, most=402)
        prices, history = {"late": 0, "torn": 5}, [("write", 0, ("late", "done", "late"))]
        told = Costly(0, history, {told: 0 for told in states})
        for wish in WISHES:
            self.assertIs(told.shows(keep, plan, prices, wish=wish), Harmed(history).shows(keep, plan, wish=wish))
        told.floors.popitem()
        self.assertIs(told.shows(keep, plan, prices), False)


class AttributesTest(Case):
    def test_copied(self):
        keep, plan, prices = CHEAP
        found = costing(keep, plan, prices, wish="left")
        history, floors = list(found.history), dict(found.floors)
        told = Costly(2, history, floors)
        history.clear()
        floors.clear()
        self.assertEqual((told.price, told.history, told.floors), (2, found.history, found.floors))
        self.assertIs(told.shows(keep, plan, prices, wish="left"), True)

    def test_changed_attributes_are_asked(self):
        found = costing(TWO, BARE, PRICES)
        kept = dict(found.floors)
        for name, wrong, good in (("price", 3, 1), ("history", (LOST,), [DONE, FRONT]), ("floors", {}, kept)):
            setattr(found, name, wrong)
            self.assertIs(found.shows(TWO, BARE, PRICES), False)
            setattr(found, name, good)
            self.assertIs(found.shows(TWO, BARE, PRICES), True)
        found.floors.pop(START)
        self.assertIs(found.shows(TWO, BARE, PRICES), False)

    def test_equality(self):
        parts = (1, (WEAR,), {START: 1, (0,): 0})
        self.assert_equality(Costly(*parts), Costly(1, [WEAR], {(0,): 0, START: 1}), True)
        for at, other in ((0, 2), (1, ()), (1, (WEAR, WEAR)), (2, {}), (2, {START: 0, (0,): 0})):
            self.assert_equality(Costly(*parts), Costly(*parts[:at], other, *parts[at + 1:]), False)
        for other in (Safe([]), Harmed([]), TWO, BARE):
            self.assert_equality(Costly(0, [], {}), other, False)

    def test_costs_go_with_harms(self):
        for history in ([LOST, ROUND, WEAR], [WEAR], [DONE]):
            want = sum(harms_by_the_words(deed) for deed in history)
            self.assertEqual(price_of(TWO, BARE, {"lost": 1, "worn": 1}, history), want)
        self.assertEqual(len(all_states(TWO, BARE)), len(costing(TWO, BARE, PRICES).floors))
