"""What is told over the whole program goes together, for keeps and plans drawn by lot and at the edges."""

import itertools
import random

from builders import CHOICES, KINDS
from cases import Case
from model import harms_by_the_words
from test_sweeps import some_pair

from quietharm.alike import Alike, Parted, compare, parted_after, tell_the_same, tells
from quietharm.blaming import Fair, Wronged, blame, fewest_harms, is_wronged, wronged_shelves
from quietharm.costing import Costly, costing, least_price, price_of
from quietharm.dangers import Dangers, dangers, greatest_safe, least_dangers
from quietharm.deeds import all_states, deeds, harms_in, trace
from quietharm.desks import Desk
from quietharm.errors import TooLarge
from quietharm.judging import WISHES, Harmed, Safe, fewest, fulfils, is_safe, judge, soonest
from quietharm.keeps import Keep, Plan
from quietharm.looks import look
from quietharm.outing import Outs, all_outs, out_in, outs
from quietharm.prices import Cheapest, NoPlan, cheapest, cost, least_cost, offers
from quietharm.sights import Sight, blind_spots, sight
from quietharm.states import first_state
from quietharm.texts import history_text, plan_text, read_history, read_plan

FREE = dict.fromkeys(("bare", "whole", "named", "noted", "mends"), 0)
WAYS = ("out", "spoilt")


def some_pairs(seed, count, most=400):
    """So many keeps and plans with at most so many states."""
    lot = random.Random(seed)
    while count:
        keep, plan = some_pair(lot)
        try:
            if len(all_states(keep, plan)) <= most:
                count -= 1
                yield keep, plan, lot
        except TooLarge:
            pass


def some_history(lot, keep, plan, size):
    desk = Desk(keep, plan)
    for turn in range(size):
        desk.do(*lot.choice(deeds(keep, plan, desk.state)))
    return desk.journal


class TogetherTest(Case):
    def test_shelves_are_put_out_only_with_a_limit(self):
        sizes = set()
        for keep, plan, lot in some_pairs(1, 40):
            told = all_outs(keep, plan)
            if plan.limit is None:
                self.assertEqual(told, [()])
            out = {shelf for shelves in told for shelf in shelves}
            self.assertLessEqual(set(wronged_shelves(keep, plan, "out")), out)
            self.assertFalse(any(len(shelves) == keep.shelves for shelves in told))
            sizes.add(len(told))
            self.assertEqual(set(outs(keep, plan).states), set(all_states(keep, plan)))
        self.assertGreater(len(sizes), 2)

    def test_harms_that_cost_one_each(self):
        for keep, plan, lot in some_pairs(2, 40):
            ones = dict.fromkeys(keep.harms, 1)
            for wish in WISHES:
                self.assertEqual(least_price(keep, plan, ones, wish=wish), fewest(keep, plan, wish=wish))
                free = least_price(keep, plan, dict.fromkeys(keep.harms, 0), wish=wish)
                self.assertEqual(free, None if is_safe(keep, plan, wish=wish) else 0)
                if free is not None:
                    self.assertLessEqual(1, fewest(keep, plan, wish=wish))
                    self.assertLessEqual(1, soonest(keep, plan, wish=wish))
            history = some_history(lot, keep, plan, 8)
            self.assertEqual(price_of(keep, plan, ones, history), harms_in(keep, plan, history))
            self.assertEqual(harms_in(keep, plan, history), sum(map(harms_by_the_words, history)))

    def test_greater_prices_cost_more(self):
        for keep, plan, lot in some_pairs(3, 30):
            prices = {word: lot.randint(0, 4) for word in keep.harms}
            for wish in WISHES:
                told = least_price(keep, plan, prices, wish=wish)
                more = least_price(keep, plan, {word: 2 * price for word, price in prices.items()}, wish=wish)
                self.assertEqual(more, None if told is None else 2 * told)
                self.assertEqual(told is None, is_safe(keep, plan, wish=wish))
                found = costing(keep, plan, prices, wish=wish)
                asked = (keep, plan) if told is None else (keep, plan, prices)
                self.assertIs(found.shows(*asked, wish=wish), True)

    def test_a_cheapest_plan_is_safe_and_nothing_cheaper_is(self):
        kinds = []
        for keep, plan, lot in some_pairs(4, 25, most=60):
            prices = {name: lot.randint(0, 9) for name in FREE}
            for wish in WISHES:
                try:
                    found = cheapest(keep, plan, prices, wish=wish)
                except TooLarge:
                    continue
                kinds.append(type(found))
                least = least_cost(keep, plan, prices, wish=wish)
                cheaper = [offer for offer in offers(keep, plan, prices) if least is None or cost(offer, prices) < least]
                self.assertFalse(any(is_safe(keep, offer, wish=wish) for offer in cheaper))
                if least is not None:
                    self.assertTrue(is_safe(keep, found.plan, wish=wish))
                    self.assertTrue(Safe(found.states).shows(keep, found.plan, wish=wish))
        self.assertGreater(min(kinds.count(Cheapest), kinds.count(NoPlan)), 5)

    def test_dangerous_sets_are_those_with_which_the_wish_fails(self):
        for keep, plan, lot in some_pairs(5, 25, most=200):
            for wish in WISHES:
                bad, good = least_dangers(keep, plan, wish=wish), greatest_safe(keep, plan, wish=wish)
                for size in range(len(keep.harms) + 1):
                    for harms in itertools.combinations(keep.harms, size):
                        safe = is_safe(Keep(keep.shelves, keep.blocks, harms, most=keep.most), plan, wish=wish)
                        self.assertEqual(safe, not any(set(part) <= set(harms) for part in bad))
                        self.assertEqual(safe, any(set(part) >= set(harms) for part in good))

    def test_texts_desks_and_traces_of_the_same_history(self):
        lot = random.Random(6)
        for turn in range(40):
            keep, plan = some_pair(lot)
            history = some_history(lot, keep, plan, lot.randint(0, 12))
            self.assertEqual(read_plan(plan_text(keep, plan)), (keep, plan))
            self.assertEqual(read_history(keep, plan, history_text(keep, plan, history)), history)
            states, desk = trace(keep, plan, history), Desk(keep, plan)
            words = [[tells(keep, plan, told, block) for block in range(keep.blocks)] for told in states]
            self.assertEqual(desk.tried(history), words[1:])
            self.assertEqual([desk.do(*deed) for deed in read_history(keep, plan, history_text(keep, plan, history))],
                             words[1:])
            self.assertEqual((desk.state, desk.journal), (states[-1], history))
            self.assertEqual(desk.writes(), [deed[2] for deed in deeds(keep, plan, desk.state) if deed[:2] == ("write", 0)])
            for told, word in zip(states, words):
                self.assertEqual(fulfils(keep, plan, told), "wrong" not in word)
                self.assertEqual(fulfils(keep, plan, told, wish="open"), "none" not in word)
                self.assertEqual(["none" if look(keep, plan, told, block) is None else "" for block in range(keep.blocks)],
                                 [one if one == "none" else "" for one in word])

    def test_answers_of_one_history(self):
        for keep, plan, lot in some_pairs(7, 30):
            history = some_history(lot, keep, plan, 6)
            last = trace(keep, plan, history)[-1]
            for wish in WISHES:
                self.assertEqual(Harmed(history).shows(keep, plan, wish=wish), not fulfils(keep, plan, last, wish=wish))
            self.assertIs(Parted(history).shows(keep, plan, plan), False)
            self.assertEqual(Outs({out_in(keep, plan, last): history, (): []}, all_states(keep, plan)).shows(keep, plan),
                             set(all_outs(keep, plan)) == {(), out_in(keep, plan, last)})
            for shelf in range(keep.shelves):
                harmed = any(deed[0] == "wear" and deed[1] == shelf or deed[0] == "write" and deed[2][shelf] != "done"
                             for deed in history)
                self.assertEqual(Wronged(history).shows(keep, plan, shelf, "out"),
                                 not harmed and shelf in out_in(keep, plan, last))

    def test_plans_that_are_alike_are_alike_in_their_looks(self):
        alike = 0
        for keep, plan, lot in some_pairs(8, 40, most=150):
            other = Plan(tuple(lot.choices(KINDS, k=keep.blocks)), plan.order, choice=lot.choice(CHOICES),
                         mends=plan.mends, limit=plan.limit)
            try:
                same = tell_the_same(keep, plan, other)
            except TooLarge:
                continue
            self.assertEqual(same, tell_the_same(keep, other, plan))
            self.assertEqual(parted_after(keep, plan, other), parted_after(keep, other, plan))
            self.assertTrue(tell_the_same(keep, plan, plan))
            if same and plan.limit is None and "worn" not in keep.harms and "late" not in keep.harms:
                # The same deeds are possible with both then, so whatever looks alone tell of is the same.
                alike += 1
                for wish in ("true", "open"):
                    self.assertEqual(soonest(keep, plan, wish=wish), soonest(keep, other, wish=wish))
        self.assertGreater(alike, 3)

    def test_blocks_that_are_alike(self):
        for keep, plan, lot in some_pairs(9, 25, most=200):
            if keep.blocks == 2:
                sums = plan.sums[::-1]
                for wish in WISHES:
                    turned = plan.but("sums", sums)
                    self.assertEqual(soonest(keep, plan, wish=wish), soonest(keep, turned, wish=wish))
                    prices = {word: lot.randint(0, 9) for word in keep.harms}
                    self.assertEqual(least_price(keep, plan, prices, wish=wish),
                                     least_price(keep, turned, prices, wish=wish))
                    self.assertEqual(least_dangers(keep, plan, wish=wish), least_dangers(keep, turned, wish=wish))
                self.assertEqual(blind_spots(keep, plan, 0), blind_spots(keep, turned, 1))
                self.assertEqual(all_outs(keep, plan), all_outs(keep, turned))
                for kind in WAYS:
                    self.assertEqual(wronged_shelves(keep, plan, kind), wronged_shelves(keep, turned, kind))

    def test_keeps_with_fewer_harms(self):
        for keep, plan, lot in some_pairs(10, 25):
            for word in keep.harms:
                less = keep - word
                self.assertLessEqual(set(all_states(less, plan)), set(all_states(keep, plan)))
                self.assertLessEqual(set(all_outs(less, plan)), set(all_outs(keep, plan)))
                for wish in WISHES:
                    self.assertLessEqual(is_safe(keep, plan, wish=wish), is_safe(less, plan, wish=wish))
                    if not is_safe(less, plan, wish=wish):
                        self.assertGreaterEqual(fewest(less, plan, wish=wish), fewest(keep, plan, wish=wish))
                for kind in WAYS:
                    self.assertLessEqual(set(wronged_shelves(less, plan, kind)), set(wronged_shelves(keep, plan, kind)))

    def test_wishes_and_wronged_shelves(self):
        for keep, plan, lot in some_pairs(11, 30):
            if is_safe(keep, plan, wish="kept") and is_safe(keep, plan):
                # Nothing but right halves is ever taken, so nothing wrong is put anywhere, and nothing right is bad.
                for kind in WAYS:
                    self.assertEqual(wronged_shelves(keep, plan, kind), [])
            if plan.limit is None and not plan.mends:
                self.assertEqual(wronged_shelves(keep, plan, "spoilt"), [])
            for kind in WAYS:
                for shelf in wronged_shelves(keep, plan, kind):
                    self.assertLessEqual(1, fewest_harms(keep, plan, shelf, kind))


class EdgesTest(Case):
    def test_without_harms_there_is_just_one_state(self):
        for shelves, blocks, most in itertools.product((1, 2, 3), (1, 2), (0, 1, 2)):
            for keep in (Keep(shelves, blocks, (), most=most), Keep.full(shelves, blocks, most=0)):
                plan = Plan(("noted", "bare")[:blocks], tuple(range(shelves)), choice="most", limit=1)
                start, zeros = first_state(keep, plan), dict.fromkeys(keep.harms, 0)
                self.assertEqual(all_states(keep, plan), [start])
                self.assertEqual(outs(keep, plan), Outs({(): ()}, [start]))
                for wish in WISHES:
                    self.assertEqual(judge(keep, plan, wish=wish), Safe([start]))
                    self.assertEqual(costing(keep, plan, zeros, wish=wish), Safe([start]))
                    self.assertEqual(dangers(keep, plan, wish=wish), Dangers({}, {keep.harms: [start]}))
                    self.assertEqual(least_cost(keep, plan, FREE, wish=wish), 0)
                for shelf, kind in itertools.product(range(shelves), WAYS):
                    self.assertEqual(blame(keep, plan, shelf, kind), Fair([start]))
                self.assertEqual(compare(keep, plan, plan.turned().but("limit", None)).pairs,
                                 [(start, first_state(keep, plan.turned()))])

    def test_all_offers_at_the_same_cost(self):
        keep, plan = Keep(2, 2, ("lost",)), Plan(("bare", "whole"), (0, 1), limit=1)
        for prices in (FREE, dict.fromkeys(FREE, 0)):
            row = offers(keep, plan, prices)
            self.assertEqual([(offer.sums, offer.mends) for offer in row],
                             list(itertools.product(itertools.product(KINDS, repeat=2), (False, True))))
            for wish in WISHES:
                found = cheapest(keep, plan, prices, wish=wish)
                safe = [offer for offer in row if is_safe(keep, offer, wish=wish)]
                self.assertIsInstance(found, Cheapest if safe else NoPlan)
                self.assertEqual(len(found.histories), 0 if safe else 32)

    def test_a_most_of_two(self):
        keep = Keep(3, 1, ("lost",), most=2)
        plan = Plan(("whole",), (0, 1, 2), choice="most")
        self.assertEqual([fewest(keep, plan, wish=wish) for wish in WISHES], [2, 2, 2, None])
        self.assertEqual(least_price(keep, plan, {"lost": 9}), 18)
        self.assertEqual([fewest_harms(keep, plan, shelf, "spoilt") for shelf in range(3)], [2, 2, 2])
        self.assertTrue(is_safe(Keep(3, 1, ("lost",)), plan))
        self.assertEqual(parted_after(keep, plan, plan.turned()), None)

    def test_one_of_two_blocks_is_wronged_alone(self):
        keep, plan = Keep(2, 2, ("torn",)), Plan(("bare", "whole"), (0, 1))
        self.assertEqual(wronged_shelves(keep, plan, "spoilt"), [1])
        spoils = [("write", 0, ("torn", "done")), ("round",)]
        self.assertIs(Wronged(spoils).shows(keep, plan, 1, "spoilt"), True)
        self.assertIs(Wronged([("write", 1, ("torn", "done")), ("round",)]).shows(keep, plan, 1, "spoilt"), False)
        self.assertEqual(blind_spots(keep, plan, 0), ["torn"])
        self.assertEqual(blind_spots(keep, plan, 1), [])

    def test_long_journals(self):
        keep, plan = Keep(2, 1, ("late", "lost"), most=2), Plan(("noted",), (1, 0), choice="newest")
        lot = random.Random(12)
        history = some_history(lot, keep, plan, 1500)
        desk = Desk(keep, plan)
        with desk.trial():
            for deed in history:
                desk.do(*deed)
            branch = desk.branch()
        self.assertEqual((desk.journal, branch.journal), ([], history))
        self.assertEqual(read_history(keep, plan, history_text(keep, plan, history)), history)
        self.assertEqual(price_of(keep, plan, {"late": 1, "lost": 1}, history), harms_in(keep, plan, history))
        self.assertEqual(branch.state, trace(keep, plan, history)[-1])
        self.assertEqual([branch.undo() for turn in history], history[::-1])


class ClassesTest(Case):
    def test_objects_of_different_classes_are_not_equal(self):
        keep, plan = Keep(1, 1), Plan(("bare",), (0,))
        things = [keep, plan, Safe([]), Harmed([]), Sight([], {}, {}), Cheapest(plan, [], {}), NoPlan({}), Alike([]),
                  Parted([]), Dangers({}, {}), Outs({}, []), Wronged([]), Fair([]), Costly(0, [], {})]
        for first, second in itertools.product(things, repeat=2):
            self.assert_equality(first, second, first is second)
        again = [Keep(1, 1), Plan(("bare",), (0,)), Safe([]), Harmed(()), Sight([], {}, {}), Cheapest(plan, [], {}),
                 NoPlan({}), Alike([]), Parted(()), Dangers({}, {}), Outs({}, []), Wronged(()), Fair([]), Costly(0, (), {})]
        for first, second in zip(things, again):
            self.assert_equality(first, second, True)

    def test_answers_are_new(self):
        keep, plan = Keep(2, 1, ("lost",)), Plan(("whole",), (0, 1), limit=1)
        prices = {"bare": 0, "whole": 1, "named": 2, "noted": 3, "mends": 5}
        for ask, told in ((judge, ()), (sight, (0,)), (cheapest, (prices,)), (compare, (plan.turned(),)), (dangers, ()),
                          (outs, ()), (blame, (0, "out")), (blame, (1, "out")), (costing, ({"lost": 2},))):
            first, second = ask(keep, plan, *told), ask(keep, plan, *told)
            self.assertIsNot(first, second)
            self.assert_equality(first, second, True)
            self.assert_unchanged(ask, keep, plan, *told)
            for name, value in vars(first).items():
                if isinstance(value, (list, dict)):
                    self.assertIsNot(value, vars(second)[name])

    def test_ways_of_wronging_go_with_is_wronged(self):
        keep, plan = Keep(3, 1, ("lost",)), Plan(("bare",), (0, 2, 1), choice="most", limit=2)
        for kind in WAYS:
            self.assertEqual(wronged_shelves(keep, plan, kind),
                             [shelf for shelf in range(3) if is_wronged(keep, plan, shelf, kind)])
