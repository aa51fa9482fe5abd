"""Where so many states come about as may, all is answered soon; where more do, only some functions are refused."""

import time
import unittest

from sizes import AT_MOST, BEYOND

from quietharm.alike import Alike, Parted, compare, parted_after, tell_the_same, tells
from quietharm.blaming import Fair, Wronged, blame, fewest_harms, is_wronged, wronged_shelves
from quietharm.costing import Costly, costing, least_price, price_of
from quietharm.dangers import Dangers, dangers, greatest_safe, least_dangers
from quietharm.deeds import after, all_states, deeds, harms_in, trace
from quietharm.desks import Desk
from quietharm.errors import TooLarge
from quietharm.judging import WISHES, Harmed, Safe, fewest, fulfils, is_safe, judge, soonest
from quietharm.keeps import Keep, Plan
from quietharm.outing import Outs, all_outs, out_in, outs
from quietharm.prices import Cheapest, NoPlan, cheapest, cost, least_cost, offers
from quietharm.rounds import found_by_round
from quietharm.sights import Sight, blind_spots, shapes, sight
from quietharm.states import first_state
from quietharm.texts import history_text, plan_text, read_history, read_plan

# Nearly as many states as there may be, each with many deeds, and the largest keeps.
MANY_DEEDS = [
    (Keep(3, 2, ("late", "torn")), Plan(("named", "named"), (2, 1, 0), choice="most", mends=False)),
    (Keep(3, 1, ("late", "torn"), most=2), Plan(("whole",), (1, 0, 2), limit=1)),
    (Keep(2, 2, ("worn",), most=2), Plan(("bare", "named"), (0, 1))),
    (Keep(3, 2, ("lost",), most=2), Plan(("noted", "named"), (2, 0, 1), limit=1)),
]
SECONDS = 5
PRICES = {"bare": 2, "whole": 2, "named": 1, "noted": 3, "mends": 1}
# With these, so many states come about with each offer as may, or nearly so, and with most of them for many deeds.
ALL_OFFERS = [
    (Keep(3, 2, ("late", "lost", "torn")), Plan(("bare", "bare"), (1, 0, 2), choice="most")),
    (Keep(3, 2, ("late", "torn")), Plan(("bare", "bare"), (1, 0, 2), choice="newest")),
    (Keep(1, 2, ("lost", "worn"), most=2), Plan(("bare", "bare"), (0,), limit=1)),
    (Keep(1, 2, ("astray", "torn"), most=2), Plan(("bare", "bare"), (0,), choice="newest")),
]


class SizesTest(unittest.TestCase):
    def soon(self, ask, *told, **more):
        start = time.perf_counter()
        answer = ask(*told, **more)
        self.assertLess(time.perf_counter() - start, SECONDS)
        return answer

    def test_all_is_answered_soon(self):
        for at, (keep, plan) in enumerate(AT_MOST + MANY_DEEDS):
            wish, block = WISHES[at % 4], at % keep.blocks
            states = self.soon(all_states, keep, plan)
            self.assertGreater(len(states), 300)
            judged = self.soon(judge, keep, plan, wish=wish)
            self.assertTrue(self.soon(judged.shows, keep, plan, wish=wish))
            self.soon(Safe(states * 10).shows, keep, plan, wish=wish)
            self.assertEqual(self.soon(is_safe, keep, plan, wish=wish), isinstance(judged, Safe))
            numbers = [self.soon(ask, keep, plan, wish=wish) for ask in (soonest, fewest)]
            self.assertEqual([number is None for number in numbers], [isinstance(judged, Safe)] * 2)
            seen = self.soon(sight, keep, plan, block)
            self.assertTrue(self.soon(seen.shows, keep, plan, block))
            self.assertEqual(self.soon(blind_spots, keep, plan, block), list(seen.unseen))

    def test_all_else_is_answered_soon(self):
        for at, (keep, plan) in enumerate(AT_MOST + MANY_DEEDS):
            wish, shelf, kind = WISHES[at % 4], at % keep.shelves, ("out", "spoilt")[at % 2]
            paid = dict(zip(keep.harms, (at, 9, 2)))
            self.assertTrue(self.soon(self.soon(compare, keep, plan, plan).shows, keep, plan, plan))
            self.assertTrue(self.soon(self.soon(dangers, keep, plan, wish=wish).shows, keep, plan, wish=wish))
            self.assertTrue(self.soon(self.soon(outs, keep, plan).shows, keep, plan))
            self.assertTrue(self.soon(self.soon(blame, keep, plan, shelf, kind).shows, keep, plan, shelf, kind))
            self.soon(wronged_shelves, keep, plan, kind)
            found = self.soon(costing, keep, plan, paid, wish=wish)
            asked = (keep, plan) if isinstance(found, Safe) else (keep, plan, paid)
            self.assertTrue(self.soon(found.shows, *asked, wish=wish))

    def test_all_offers_are_looked_at_soon(self):
        kinds = []
        for keep, plan in ALL_OFFERS:
            for wish in WISHES:
                found = self.soon(cheapest, keep, plan, PRICES, wish=wish)
                self.assertTrue(self.soon(found.shows, keep, plan, PRICES, wish=wish))
                kinds.append((type(found), len(found.histories)))
        self.assertIn((NoPlan, 32), kinds)

    def test_long_histories_are_answered_soon(self):
        keep, plan = BEYOND[3]
        history = [("write", 0, ("done", "done", "late")), ("land", 2, 0), ("round",)] * 300
        self.assertEqual(len(self.soon(trace, keep, plan, history)), 901)
        self.assertEqual(self.soon(harms_in, keep, plan, history), 300)
        self.soon(Harmed(history).shows, keep, plan)
        self.soon(Sight([], {"old": history}, {}).shows, keep, plan, 0)
        self.soon(Parted(history).shows, keep, plan, plan)
        self.soon(Wronged(history).shows, keep, plan, 0, "spoilt")
        self.assertEqual(self.soon(price_of, keep, plan, dict.fromkeys(keep.harms, 2), history), 600)
        text = self.soon(history_text, keep, plan, history)
        self.assertEqual(self.soon(read_history, keep, plan, text), history)
        self.assertEqual(len(self.soon(Desk(keep, plan).tried, history)), 900)

    def test_just_these_functions_are_refused(self):
        for keep, plan in BEYOND:
            for ask in (all_states, judge, is_safe, soonest, fewest):
                with self.assertRaises(TooLarge):
                    self.soon(ask, keep, plan)
            for ask in (sight, blind_spots):
                with self.assertRaises(TooLarge):
                    self.soon(ask, keep, plan, 0)
            self.assert_refused_elsewhere(keep, plan)
            self.assert_told_elsewhere(keep, plan)
            start = first_state(keep, plan)
            for deed in self.soon(deeds, keep, plan, start):
                after(keep, plan, start, deed)
            self.assertEqual(found_by_round(keep, plan, start)[1], [])
            self.assertTrue(fulfils(keep, plan, start))
            self.assertEqual(shapes(keep, plan, start, 0), [None] * keep.shelves)
            for answer in (Safe([start]), Harmed([("round",)]), Harmed([])):
                self.assertFalse(answer.shows(keep, plan))
            self.assertFalse(Sight([start], {}, {}).shows(keep, plan, 0))

    def assert_refused_elsewhere(self, keep, plan):
        paid = dict.fromkeys(keep.harms, 1)
        for ask, told in ((compare, (plan,)), (tell_the_same, (plan,)), (parted_after, (plan,)), (dangers, ()),
                          (least_dangers, ()), (greatest_safe, ()), (outs, ()), (all_outs, ()), (blame, (0, "out")),
                          (is_wronged, (1, "out")), (fewest_harms, (0, "spoilt")), (wronged_shelves, ("spoilt",)),
                          (costing, (paid,)), (least_price, (paid,))):
            with self.subTest(ask=ask), self.assertRaises(TooLarge):
                self.soon(ask, keep, plan, *told)
        first = {name: int(name not in plan.sums and (name != "mends" or not plan.mends)) for name in PRICES}
        for ask in (cheapest, least_cost) if len(set(plan.sums)) == 1 and not plan.mends else ():
            with self.assertRaises(TooLarge):
                self.soon(ask, keep, plan, first)

    def assert_told_elsewhere(self, keep, plan):
        start, paid, row = first_state(keep, plan), dict.fromkeys(keep.harms, 1), [("round",)]
        self.assertEqual(tells(keep, plan, start, 0), "right")
        self.assertEqual(len(offers(keep, plan, PRICES)), 2 * 4 ** keep.blocks)
        self.assertGreater(cost(plan, PRICES), 0)
        self.assertEqual(Desk(keep, plan).tried(row), [["right"] * keep.blocks])
        self.assertEqual(read_plan(plan_text(keep, plan)), (keep, plan))
        self.assertEqual(read_history(keep, plan, history_text(keep, plan, row)), row)
        self.assertEqual((out_in(keep, plan, start), price_of(keep, plan, paid, row)), ((), 0))
        for answer, told in ((Alike([(start, start)]), (plan,)), (Parted(row), (plan,)), (Dangers({(): row}, {}), ()),
                             (Outs({(): row}, [start]), ()), (Wronged(row), (0, "out")), (Fair([]), (0, "spoilt")),
                             (Costly(0, row, {start: 0}), (paid,)), (NoPlan({}), (PRICES,)),
                             (Cheapest(plan, [start], {}), (PRICES,))):
            self.assertFalse(self.soon(answer.shows, keep, plan, *told))


if __name__ == "__main__":
    unittest.main()
