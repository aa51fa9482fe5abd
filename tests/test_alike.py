"""Promise 10: the words of looks, and whether two plans tell alike."""

from answers import pairs_by_the_words, parted_by_the_words, words_by_the_words
from builders import KINDS, EqualToAll, cell, copies, one, right, state
from cases import Case
from sizes import BEYOND

from quietharm.alike import Alike, Parted, compare, parted_after, tell_the_same, tells
from quietharm.deeds import after, all_states, trace
from quietharm.errors import BadBlock, BadKeep, BadPlan, BadState, TooLarge
from quietharm.judging import Harmed, Safe
from quietharm.keeps import Keep, Plan
from quietharm.states import first_state

ONE = Keep(1, 1, ("worn",))
BARE = Plan(("bare",), (0,), mends=False)
WHOLE = BARE.but("sums", ("whole",))
NAMED = BARE.but("sums", ("named",))
WEAR, ROUND, DONE = ("wear", 0, 0, 0), ("round",), ("write", 0, ("done",))
MINE, OLD, OTHER = (0, 0), (0, 1), (1, 0)
START = first_state(ONE, BARE)
TWO = Keep(2, 1, ("lost",))
FIRST = Plan(("whole",), (0, 1))
NEWEST = FIRST.but("choice", "newest")
LOST = ("write", 0, ("lost", "done"))
LATE_TORN = Keep(3, 1, ("late", "torn"))
SMALL = Keep(1, 2, ("late", "torn", "worn"))
# Pairs of plans with which just 400 pairs come about, alike or not, and with which just more do.
AT_MOST = [
    (LATE_TORN, Plan(("noted",), (0, 2, 1), choice="most", limit=2), Plan(("whole",), (0, 2, 1), mends=False)),
    (SMALL, Plan(("bare", "whole"), (0,), choice="newest"), Plan(("bare", "noted"), (0,), choice="most")),
]
MORE = [
    (Keep(3, 1, ("late", "torn"), most=2), Plan(("whole",), (0, 1, 2), mends=False, limit=1),
     Plan(("whole",), (0, 1, 2), choice="most", limit=1)),
    (Keep(3, 1, ("lost", "worn")), Plan(("whole",), (1, 2, 0), choice="newest"), Plan(("noted",), (0, 2, 1), limit=1)),
]
# More than 400 states come about with the first plan alone, but not as many pairs.
FEW_PAIRS = (Keep(3, 1, ("lost", "worn")), Plan(("bare",), (0, 1, 2), choice="most", mends=False),
             Plan(("bare",), (2, 1, 0), choice="most", limit=1))
ODD_BLOCKS = (None, True, False, -1, 2, "0", (0,), [0], {}, object(), EqualToAll())


class TellsTest(Case):
    def assert_tells(self, keep, plan, told, *want):
        self.assertEqual([tells(keep, plan, told, block) for block in range(keep.blocks)], list(want))
        self.assertEqual(words_by_the_words(plan, told), list(want))

    def test_each_word(self):
        for plan, told, want in ((BARE, one(right()), "right"), (BARE, one(cell(OLD, OLD)), "wrong"),
                                 (BARE, one(cell(None, MINE)), "wrong"), (WHOLE, one(cell(None, MINE)), "none"),
                                 (WHOLE, one(cell(MINE, OLD)), "none"), (WHOLE, one(cell(OLD, OLD)), "wrong"),
                                 (WHOLE, one(right(), given_up=True), "none"),
                                 (BARE, one(cell(OLD, OLD), given_up=True), "none")):
            self.assert_tells(ONE, plan, told, want)

    def test_each_block(self):
        keep, plan = Keep(2, 2), Plan(("whole", "bare"), (1, 0))
        good, strange = (MINE, MINE), (MINE, MINE)
        told = state(copies(good, strange), copies(good, strange), given_up=(False, False))
        self.assert_tells(keep, plan, told, "right", "wrong")
        told = state(copies((OTHER, OTHER), (OTHER, OTHER)), copies((MINE, OTHER), (OTHER, OTHER)),
                     given_up=(False, False))
        self.assert_tells(keep, plan, told, "wrong", "right")
        told = state(copies((None, OLD), (OTHER, OTHER)), copies((MINE, OTHER), (OTHER, OTHER)), given_up=(False, True))
        self.assert_tells(keep, plan, told, "none", "none")

    def test_all_states(self):
        for plan in (FIRST, NEWEST, FIRST.but("limit", 1), FIRST.but("sums", ("noted",))):
            for told in all_states(TWO, plan):
                self.assertEqual([tells(TWO, plan, told, 0)], words_by_the_words(plan, told))

    def test_errors_in_their_order(self):
        for keep in (None, BARE):
            self.assert_refused(BadKeep, tells, keep, None, None, None, part=None)
        for plan in (None, ONE, FIRST):
            self.assert_refused(BadPlan, tells, ONE, plan, None, None, part=None)
        for told in (None, list(START), START[:2], one(right(), right()), one(right(note=0))):
            self.assert_refused(BadState, tells, ONE, BARE, told, None)
        for block in ODD_BLOCKS + (1,):
            self.assert_refused(BadBlock, tells, ONE, BARE, START, block)


class CompareTest(Case):
    def assert_compared(self, keep, first, second):
        """What is told, after seeing that it is as the words say."""
        pairs = pairs_by_the_words(keep, first, second)
        if pairs is None:
            for ask in (compare, tell_the_same, parted_after):
                self.assert_refused(TooLarge, ask, keep, first, second)
            return None
        want = parted_by_the_words(first, second, pairs)
        found = self.assert_unchanged(compare, keep, first, second)
        self.assertIs(found.shows(keep, first, second), True)
        self.assertIs(tell_the_same(keep, first, second), want is None)
        self.assertEqual(parted_after(keep, first, second), want)
        if want is None:
            self.assertIsInstance(found, Alike)
            self.assertEqual(set(found.pairs), set(pairs))
            self.assertIsInstance(found.pairs, list)
        else:
            self.assertIsInstance(found, Parted)
            self.assertIsInstance(found.history, tuple)
            ends = [trace(keep, plan, found.history)[-1] for plan in (first, second)]
            self.assertNotEqual(words_by_the_words(first, ends[0]), words_by_the_words(second, ends[1]))
        return found

    def test_by_hand(self):
        self.assertEqual(parted_after(ONE, BARE, WHOLE), 1)
        self.assert_compared(ONE, BARE, WHOLE)
        self.assertEqual(len(self.assert_compared(ONE, WHOLE, NAMED).pairs), 8)
        self.assertEqual(parted_after(TWO, FIRST, NEWEST), 1)
        for keep, plan in ((ONE, BARE), (TWO, FIRST), (TWO, NEWEST.but("limit", 1))):
            found = self.assert_compared(keep, plan, plan)
            self.assertEqual(set(found.pairs), {(told, told) for told in all_states(keep, plan)})

    def test_without_harms(self):
        for keep in (Keep(2, 1), Keep.full(2, 1, most=0)):
            plans = [Plan((kind,), order, limit=limit) for kind, order, limit in zip(KINDS, ((0, 1), (1, 0)) * 2,
                                                                                 (None, 1, 2, None))]
            for first in plans:
                for second in plans:
                    found = self.assert_compared(keep, first, second)
                    self.assertEqual(found.pairs, [(first_state(keep, first), first_state(keep, second))])

    def test_limits_of_both_kinds(self):
        keep = Keep(2, 1, ("lost", "worn"))
        told = {}
        for limits in ((None, 1), (1, None), (1, 2), (2, 1), (2, None), (1, 1)):
            first, second = (NEWEST.but("limit", limit) for limit in limits)
            found = self.assert_compared(keep, first, second)
            told[limits] = parted_after(keep, first, second)
            if isinstance(found, Alike):
                self.assertTrue(any(None in pair[0][0] for pair in found.pairs) or limits[0] is None)
        self.assertEqual(told[1, 1], None)
        self.assertEqual(told[None, 1], told[1, None])
        self.assertGreater(told[1, 2], 1)

    def test_notes_with_one_alone(self):
        noted = NEWEST.but("sums", ("noted",))
        self.assertEqual(parted_after(TWO, noted, NEWEST), 1)
        keep = Keep(2, 1, ("lost",), most=2)
        for kind in KINDS:
            for plan in (FIRST, NEWEST, FIRST.but("choice", "most"), NEWEST.but("limit", 1)):
                self.assert_compared(keep, plan.but("sums", ("noted",)), plan.but("sums", (kind,)))
                self.assert_compared(keep, plan.but("sums", (kind,)), plan.but("sums", ("noted",)))

    def test_deeds_that_are_possible_with_one_alone(self):
        # With the strict plan the first shelf is put out, and wears no more.
        strict, mild = FIRST.turned().but("limit", 1), FIRST.turned()
        keep = Keep(2, 1, ("worn",))
        history = [WEAR, ROUND, WEAR]
        self.assertEqual(len(trace(keep, mild, history)), 4)
        self.assertIsNone(trace(keep, strict, history[:2])[-1][0][0])
        self.assertIs(Parted(history).shows(keep, strict, mild), False)
        self.assertIs(Parted(history).shows(keep, mild, strict), False)
        self.assert_compared(keep, strict, mild)
        self.assert_compared(keep, mild, strict)

    def test_two_blocks(self):
        keep = Keep(1, 2, ("astray",))
        for first in ("bare", "noted"):
            for second in KINDS:
                one_plan, other = Plan((first, second), (0,)), Plan(("named", second), (0,), mends=False)
                found = self.assert_compared(keep, one_plan, other)
                self.assertIs(isinstance(found, Parted), first == "bare")

    def test_more_deeds(self):
        found = set()
        for keep in (Keep(2, 1, ("lost",), most=1), Keep(2, 1, ("torn", "worn")), Keep(3, 1, ("lost",))):
            order = tuple(range(keep.shelves))
            for kind in KINDS:
                for limit in (None, 1, 2):
                    first = Plan((kind,), order, choice="newest", limit=limit)
                    self.assert_compared(keep, first, first.but("mends", False))
                    self.assert_compared(keep, first, first.turned())
                    found.add(parted_after(keep, first, first.but("limit", 1)))
        self.assertGreater(max(size for size in found if size), 2)

    def test_just_so_many_pairs(self):
        for keep, first, second in AT_MOST:
            self.assertEqual(len(pairs_by_the_words(keep, first, second)), 400)
            self.assert_compared(keep, first, second)
        self.assertIsInstance(compare(*AT_MOST[1]), Alike)
        self.assertIsInstance(compare(*AT_MOST[0]), Parted)

    def test_more_pairs_than_there_may_be(self):
        for (keep, first, second), size in zip(MORE, (402, 404)):
            self.assertEqual(len(pairs_by_the_words(keep, first, second, most=404)), size)
            for plan in (first, second):
                self.assertLess(len(all_states(keep, plan)), 400)
            self.assert_compared(keep, first, second)
            self.assert_compared(keep, second, first)
        for keep, plan in BEYOND:
            for ask in (compare, tell_the_same, parted_after):
                self.assert_refused(TooLarge, ask, keep, plan, plan)

    def test_more_states_with_one_alone(self):
        keep, first, second = FEW_PAIRS
        with self.assertRaises(TooLarge):
            all_states(keep, first)
        self.assertIsInstance(self.assert_compared(keep, first, second), Parted)
        self.assertEqual(parted_after(keep, first, second), 3)

    def test_errors_in_their_order(self):
        large, plan = BEYOND[2]
        for ask in (compare, tell_the_same, parted_after, Alike([]).shows, Parted([]).shows, Parted([ROUND]).shows):
            for keep in (None, plan):
                self.assert_refused(BadKeep, ask, keep, None, None, part=None)
            for odd in (None, large, FIRST, plan.but("order", (0, 1, 2)), plan.but("sums", ("bare",)), EqualToAll()):
                self.assert_refused(BadPlan, ask, large, odd, plan, part=None)
                self.assert_refused(BadPlan, ask, large, plan, odd, part=None)


class ShowsTest(Case):
    def assert_alike(self, want, pairs, first=WHOLE, second=NAMED):
        self.assertIs(Alike(pairs).shows(ONE, first, second), want)

    def test_pairs_as_told(self):
        pairs = compare(ONE, WHOLE, NAMED).pairs
        for told in (pairs, pairs[::-1], pairs * 2, pairs + pairs[:1]):
            self.assert_alike(True, told)
            self.assert_alike(True, told, WHOLE.but("limit", 1), NAMED)

    def test_pair_left_out(self):
        pairs = compare(ONE, WHOLE, NAMED).pairs
        for at in range(len(pairs)):
            self.assert_alike(False, pairs[:at] + pairs[at + 1:])
        self.assert_alike(False, [])
        self.assert_alike(False, pairs[:1])

    def test_pair_put_in(self):
        pairs = compare(ONE, WHOLE, NAMED).pairs
        worn, aged = one(cell(None, None)), one(cell(OLD, OLD))
        for odd in ((worn, START), (START, worn), (START, aged), (aged, worn)):
            self.assert_alike(False, pairs + [odd])
        self.assert_alike(False, pairs + [(aged, aged)])
        for odd in ((START,), (START, START, START), START, (), ((), ()), (START, None), (START, START[:2]),
                    (START, one(right(), right())), (START, one(right(note=0))), (None, None), (None, START),
                    (START[:2], START), (one(right(), right()), START), (one(right(note=0)), START), [START, START]):
            self.assert_alike(False, pairs + [odd])
            self.assert_alike(False, [odd])

    def test_more_pairs_that_nothing_leaves(self):
        keep = Keep(1, 1)
        start = (START, START)
        aged = (one(cell(OLD, OLD)), one(cell(OLD, OLD)))
        self.assertIs(Alike([start]).shows(keep, WHOLE, NAMED), True)
        self.assertIs(Alike([start, aged]).shows(keep, WHOLE, NAMED), True)
        self.assertIs(Alike([aged]).shows(keep, WHOLE, NAMED), False)
        mixed = (one(cell(OLD, OLD)), one(cell((0, 2), (0, 1))))
        self.assertIs(Alike([start, mixed]).shows(keep, WHOLE, BARE), True)
        self.assertIs(Alike([start, mixed]).shows(keep, WHOLE, NAMED), False)

    def test_pairs_exchanged(self):
        keep, strict = Keep(2, 1, ("lost",), most=2), Plan(("bare",), (1, 0), limit=1)
        mild = Plan(("named",), (1, 0), choice="most")
        pairs = compare(keep, strict, mild).pairs
        turned = [(second, first) for first, second in pairs]
        self.assertNotEqual(set(turned), set(pairs))
        self.assertIs(Alike(pairs).shows(keep, strict, mild), True)
        self.assertIs(Alike(turned).shows(keep, strict, mild), False)
        self.assertIs(Alike(turned).shows(keep, mild, strict), True)
        self.assertIs(Alike([pairs[0]] + turned[1:]).shows(keep, strict, mild), False)

    def test_words_that_differ(self):
        pairs = pairs_by_the_words(ONE, BARE, WHOLE)
        self.assert_alike(False, list(pairs), BARE, WHOLE)
        good = [pair for pair in pairs if words_by_the_words(BARE, pair[0]) == words_by_the_words(WHOLE, pair[1])]
        self.assert_alike(False, good, BARE, WHOLE)
        self.assert_alike(False, good * 2, BARE, WHOLE)

    def test_histories(self):
        for history, want in (([WEAR], True), ((WEAR,), True), ([ROUND, WEAR], True), ([], False), ([ROUND], False),
                              ([WEAR, DONE], False), ([WEAR, ("wear", 0, 0, 1)], False), ([WEAR, ROUND], True),
                              ([("wear", 0, 0, 2)], False), ([()], False), ([("wear",)], False), ([(None,), WEAR], False),
                              ([("write", 0, ("lost",)), WEAR], False), ([WEAR, ROUND, WEAR], False)):
            self.assertIs(Parted(history).shows(ONE, BARE, WHOLE), want)
            self.assertIs(Parted(history).shows(ONE, WHOLE, BARE), want)
            self.assertIs(Parted(history).shows(ONE, WHOLE, NAMED), False)

    def test_history_shortened(self):
        keep, first, second = FEW_PAIRS
        history = compare(keep, first, second).history
        self.assertIs(Parted(history).shows(keep, first, second), True)
        for size in range(len(history)):
            self.assertIs(Parted(history[:size]).shows(keep, first, second), False)
        for deed in (("land", 0, 0), ("wear", 0, 1, 0), ("write", 0, ("lost", "lost", "lost"))):
            self.assertIs(Parted(history + (deed,)).shows(keep, first, second), False)

    def test_also_with_more_pairs_than_are_looked_at_elsewhere(self):
        keep, first, second = MORE[0]
        pairs = pairs_by_the_words(keep, first, second, most=404)
        self.assertIs(Alike(list(pairs)).shows(keep, first, second), False)
        self.assertIs(Parted([("write", 0, ("late", "late", "done"))]).shows(keep, first, second), False)
        self.assertIs(Parted([("write", 0, ("late", "done", "done"))]).shows(keep, first, second), True)
        self.assertIs(Parted([("write", 0, ("late", "done", "done"))]).shows(keep, first, first), False)
        keep, plan = BEYOND[1]
        states = [told for told in pairs_by_the_words(keep, plan, plan, most=402)]
        self.assertEqual(len(states), 402)
        self.assertIs(Alike(states).shows(keep, plan, plan), True)


class AttributesTest(Case):
    def test_copied(self):
        pairs, history = [(START, START)], [WEAR]
        alike, parted = Alike(pairs), Parted(history)
        pairs.clear()
        history.clear()
        self.assertEqual((alike.pairs, parted.history), ([(START, START)], (WEAR,)))
        self.assertIs(alike.shows(Keep(1, 1), WHOLE, NAMED), True)

    def test_changed_attributes_are_asked(self):
        found = compare(ONE, WHOLE, NAMED)
        last = found.pairs.pop()
        self.assertIs(found.shows(ONE, WHOLE, NAMED), False)
        found.pairs.append(last)
        self.assertIs(found.shows(ONE, WHOLE, NAMED), True)
        found.pairs = []
        self.assertIs(found.shows(ONE, WHOLE, NAMED), False)
        found = compare(ONE, BARE, WHOLE)
        found.history = [DONE]
        self.assertIs(found.shows(ONE, BARE, WHOLE), False)
        found.history = [DONE, WEAR]
        self.assertIs(found.shows(ONE, BARE, WHOLE), True)

    def test_equality(self):
        self.assert_equality(Alike([(START, START)]), Alike([(START, START)]), True)
        for other in ([], [(START, START)] * 2, [(START, after(ONE, BARE, START, WEAR))]):
            self.assert_equality(Alike([(START, START)]), Alike(other), False)
        self.assert_equality(Parted([WEAR]), Parted((WEAR,)), True)
        self.assert_equality(Parted([WEAR]), Parted([]), False)
        for other in (Parted([]), Safe([]), Harmed([]), ONE, BARE):
            self.assert_equality(Alike([]), other, False)
        for other in (Alike([]), Safe([]), Harmed([])):
            self.assert_equality(Parted([]), other, False)
