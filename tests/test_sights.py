"""Promise 8: the shapes of copies, and which of them sums see after all histories, and which not."""

import itertools
import unittest

from builders import KINDS, EqualToAll, cell, copies, one, right, state
from model import closed, reach_by_the_words, seen_by_the_words
from sizes import AT_MOST, BEYOND

from quietharm.deeds import all_states, trace
from quietharm.errors import BadBlock, BadKeep, BadPlan, BadState, TooLarge
from quietharm.judging import Harmed, Safe
from quietharm.keeps import Keep, Plan
from quietharm.looks import passes
from quietharm.sights import Sight, blind_spots, shapes, sight
from quietharm.states import first_state

ONE = Keep(2, 1, ("lost", "torn"))
WHOLE = Plan(("whole",), (0, 1), choice="newest")
THREE = Keep(3, 1)
ORDER = Plan(("bare",), (0, 1, 2))
TWO = Keep.full(2, 2)
BOTH = Plan(("whole", "bare"), (0, 1))
MINE, OLD, OLDER, OTHER = (0, 0), (0, 1), (0, 2), (1, 0)
NO = (False, False)
ROUND = ("round",)
DONE = ("write", 0, ("done", "done"))
LOST = ("write", 0, ("lost", "done"))
TORN = ("write", 0, ("torn", "done"))
START = first_state(ONE, WHOLE)
STATES = all_states(ONE, WHOLE)
ODD_BLOCKS = (None, True, False, -1, 2, "0", (0,), [0], {}, object(), EqualToAll())


class ShapesTest(unittest.TestCase):
    def assert_shape(self, halves, want):
        told = state(copies(halves, (OTHER, OTHER)), copies((MINE, MINE), (OTHER, OTHER)), given_up=NO)
        self.assertEqual(shapes(TWO, BOTH, told, 0), [want, None])

    def test_each_shape(self):
        for want, rows in {None: [(MINE, MINE)], "old": [(OLD, OLD)], "strange": [(OTHER, OTHER), ((1, 1), (1, 1))],
                           "torn": [(MINE, OLD), (OLD, MINE), (OLD, OLDER), (MINE, OTHER), (OTHER, MINE),
                                    (OTHER, (1, 1)), (OLD, OTHER)],
                           "worn": [(None, None), (None, MINE), (MINE, None), (None, OLD), (OLD, None), (None, OTHER),
                                    (OTHER, None)]}.items():
            for halves in rows:
                self.assert_shape(halves, want)

    def test_of_each_shelf_and_block(self):
        told = one(cell(OLD, OLD), right(), cell(MINE, OLD))
        self.assertEqual(shapes(THREE, ORDER, told, 0), ["old", None, "torn"])
        told = state(copies((OTHER, OTHER), ((1, 1), (1, 1))), copies((MINE, MINE), (MINE, MINE)), given_up=NO)
        self.assertEqual(shapes(TWO, BOTH, told, 0), ["strange", None])
        self.assertEqual(shapes(TWO, BOTH, told, 1), ["old", "strange"])

    def test_shelves_put_out(self):
        plan = ORDER.but("limit", 1)
        self.assertEqual(shapes(THREE, plan, one(None, cell(OLD, OLD), None), 0), [None, "old", None])
        self.assertEqual(shapes(THREE, plan, one(cell(None, None), right(), None), 0), ["worn", None, None])

    def test_notes_late_writes_and_blocks_given_up_do_not_matter(self):
        noted = Plan(("noted",), (0, 1))
        told = one(right(note=1, late=0), cell(OLD, OLD, 1, 0), given_up=True)
        self.assertEqual(shapes(ONE, noted, told, 0), [None, "old"])

    def test_list_is_new(self):
        shapes(ONE, WHOLE, START, 0).append(1)
        self.assertEqual(shapes(ONE, WHOLE, START, 0), [None, None])

    def test_errors_in_their_order(self):
        for keep in (None, WHOLE):
            with self.assertRaises(BadKeep):
                shapes(keep, None, None, None)
        for plan in (None, ONE, BOTH):
            with self.assertRaises(BadPlan):
                shapes(ONE, plan, None, None)
        for told in (None, list(START), one(right()), one(right(note=0), right(note=0))):
            with self.assertRaises(BadState):
                shapes(ONE, WHOLE, told, None)
        for block in ODD_BLOCKS + (1,):
            with self.assertRaises(BadBlock):
                shapes(ONE, WHOLE, START, block)


class SightTest(unittest.TestCase):
    def assert_sight(self, keep, plan, block, seen, unseen):
        found = sight(keep, plan, block)
        self.assertIsInstance(found, Sight)
        self.assertEqual(set(found.states), set(all_states(keep, plan)))
        self.assertEqual((list(found.seen), list(found.unseen)), (seen, unseen))
        self.assertEqual(blind_spots(keep, plan, block), unseen)
        self.assertTrue(found.shows(keep, plan, block))
        for told, at in ((found.seen, 0), (found.unseen, 1)):
            for shape, history in told.items():
                self.assertIsInstance(history, tuple)
                last = trace(keep, plan, history)[-1]
                self.assertIn(shape, seen_by_the_words(plan, last, block)[at])

    def test_kinds_of_sums(self):
        keep = Keep(2, 1, ("lost", "torn", "worn"))
        for kind, seen, unseen in (("bare", [], ["old", "torn", "worn"]), ("whole", ["torn", "worn"], ["old"]),
                                   ("named", ["torn", "worn"], ["old"]), ("noted", ["old", "torn", "worn"], [])):
            for mends in (True, False):
                self.assert_sight(keep, Plan((kind,), (0, 1), choice="newest", mends=mends), 0, seen, unseen)
        # The note for the only shelf that is left is lost together with the write.
        plan = Plan(("noted",), (0, 1), choice="newest", limit=1)
        self.assert_sight(keep, plan, 0, ["old", "torn", "worn"], ["old"])

    def test_writes_that_go_astray(self):
        keep = Keep(1, 2, ("astray",))
        for kind, seen, unseen in (("bare", [], ["old", "strange"]), ("whole", [], ["old", "strange"]),
                                   ("named", ["strange"], ["old"]), ("noted", ["strange"], ["old"])):
            self.assert_sight(keep, Plan((kind, "bare"), (0,)), 0, seen, unseen)

    def test_neither_seen_nor_unseen(self):
        self.assert_sight(Keep(2, 1), WHOLE, 0, [], [])
        self.assert_sight(Keep.full(2, 1, most=0), WHOLE, 0, [], [])
        self.assert_sight(Keep(2, 2, ("worn",)), Plan(("bare", "whole"), (0, 1), limit=1), 1, ["worn"], [])

    def test_seen_and_unseen(self):
        keep = Keep(2, 1, ("lost",), most=2)
        self.assert_sight(keep, Plan(("noted",), (0, 1)), 0, ["old"], ["old"])
        self.assert_sight(Keep(2, 1, ("lost",)), Plan(("noted",), (0, 1), choice="newest"), 0, ["old"], [])

    def test_blocks_have_their_own(self):
        keep = Keep(1, 2, ("lost", "worn"))
        plan = Plan(("bare", "named"), (0,))
        self.assert_sight(keep, plan, 0, [], ["old", "worn"])
        self.assert_sight(keep, plan, 1, ["worn"], ["old"])

    def test_go_with_all_histories(self):
        keeps = [(Keep(2, 1, ("late", "torn")), (1, 0)), (Keep(2, 2, ("astray",)), (1, 0)),
                 (Keep(2, 1, ("lost",), most=2), (0, 1))]
        pairs = [AT_MOST[0]] + [(keep, Plan((kind,) * keep.blocks, order, limit=limit))
                                for (keep, order), kind, limit in itertools.product(keeps, KINDS, (None, 1))]
        for keep, plan in pairs:
            states = reach_by_the_words(keep, plan)
            for block in range(keep.blocks):
                told = [seen_by_the_words(plan, state, block) for state in states]
                self.assert_sight(keep, plan, block, *[sorted({shape for row in told for shape in row[at]})
                                                       for at in (0, 1)])

    def test_answers_are_new(self):
        found = sight(ONE, WHOLE, 0)
        found.states.clear()
        found.seen.clear()
        found.unseen["worn"] = ()
        blind_spots(ONE, WHOLE, 0).append("worn")
        self.assertFalse(found.shows(ONE, WHOLE, 0))
        self.assert_sight(ONE, WHOLE, 0, ["torn"], ["old"])

    def test_too_large(self):
        for keep, plan in BEYOND:
            for ask in (sight, blind_spots):
                with self.assertRaises(TooLarge):
                    ask(keep, plan, keep.blocks - 1)

    def test_errors_in_their_order(self):
        large, plan = BEYOND[2]
        for ask in (sight, blind_spots, Sight([], {}, {}).shows, Sight([START], {"worn": ()}, {}).shows):
            for keep in (None, WHOLE):
                with self.assertRaises(BadKeep):
                    ask(keep, None, None)
            for odd in (None, large, WHOLE, plan.but("order", (0, 1, 2))):
                with self.assertRaises(BadPlan):
                    ask(large, odd, None)
            for block in ODD_BLOCKS:
                with self.assertRaises(BadBlock):
                    ask(large, plan, block)


class ShowsTest(unittest.TestCase):
    def assert_shown(self, states, seen, unseen, want=True, keep=ONE, plan=WHOLE):
        self.assertIs(Sight(states, seen, unseen).shows(keep, plan, 0), want)

    def test_as_told(self):
        self.assert_shown(STATES, {"torn": [TORN]}, {"old": [LOST]})
        self.assert_shown(STATES[::-1] * 2, {"torn": (DONE, TORN)}, {"old": (TORN, ROUND, DONE, LOST)})

    def test_state_left_out_or_put_in(self):
        for at in range(len(STATES)):
            self.assert_shown(STATES[:at] + STATES[at + 1:], {"torn": [TORN]}, {"old": [LOST]}, want=False)
        self.assert_shown([], {}, {}, want=False)
        self.assert_shown([START], {}, {}, want=False)
        self.assert_shown([START], {}, {}, keep=Keep(2, 1))
        self.assert_shown(STATES + [one(cell(OLD, OLDER), right())], {"torn": [TORN]}, {"old": [LOST]}, want=False)

    def test_more_states_than_come_about(self):
        more = closed(ONE, WHOLE, STATES + [one(cell(OLD, OLDER), right())])
        self.assertGreater(len(more), len(STATES) + 1)
        self.assert_shown(more, {"torn": [TORN]}, {"old": [LOST]})
        worn = closed(ONE, WHOLE, STATES + [one(cell(None, None), right())])
        self.assert_shown(worn, {"torn": [TORN]}, {"old": [LOST]}, want=False)
        self.assert_shown(worn, {"torn": [TORN], "worn": []}, {"old": [LOST]}, want=False)
        self.assert_shown(worn, {"torn": [TORN], "worn": [TORN]}, {"old": [LOST]}, want=False)

    def test_shape_left_out_or_put_in(self):
        self.assert_shown(STATES, {}, {"old": [LOST]}, want=False)
        self.assert_shown(STATES, {"torn": [TORN]}, {}, want=False)
        self.assert_shown(STATES, {}, {}, want=False)
        self.assert_shown(STATES, {"old": [LOST]}, {"torn": [TORN]}, want=False)
        for shape in ("old", "strange", "worn"):
            for history in ([], [LOST], [TORN]):
                self.assert_shown(STATES, {"torn": [TORN], shape: history}, {"old": [LOST]}, want=False)
        for shape in ("torn", "strange", "worn"):
            for history in ([], [LOST], [TORN]):
                self.assert_shown(STATES, {"torn": [TORN]}, {"old": [LOST], shape: history}, want=False)
        self.assert_shown(STATES, {"worn": [TORN]}, {"old": [LOST]}, want=False)

    def test_histories(self):
        for history in ([], [LOST], [TORN, DONE], [TORN, ROUND], [TORN, TORN], [("wear", 0, 0, 0)], [("land", 0, 0), TORN],
                        [LOST, TORN]):
            self.assert_shown(STATES, {"torn": history}, {"old": [LOST]}, want=False)
        for history in ([], [TORN], [LOST, DONE], [LOST, ROUND], [LOST, LOST], [("write", 0, ("lost", "lost"))]):
            self.assert_shown(STATES, {"torn": [TORN]}, {"old": history}, want=False)
        self.assert_shown(STATES, {"torn": [LOST, ROUND, TORN]}, {"old": [TORN, ROUND, LOST]})

    def test_seen_and_unseen_of_one_shape(self):
        keep = Keep(2, 1, ("lost",), most=2)
        plan = Plan(("noted",), (0, 1))
        states = all_states(keep, plan)
        both = ("write", 0, ("lost", "lost"))
        self.assert_shown(states, {"old": [LOST]}, {"old": [both]}, keep=keep, plan=plan)
        self.assert_shown(states, {"old": [both]}, {"old": [both]}, want=False, keep=keep, plan=plan)
        self.assert_shown(states, {"old": [LOST]}, {"old": [LOST]}, want=False, keep=keep, plan=plan)
        self.assert_shown(states, {"old": [LOST]}, {"old": [both, ROUND]}, keep=keep, plan=plan)
        self.assertEqual(passes(keep, plan, trace(keep, plan, [LOST])[-1], 0), [])

    def test_dicts_in_any_order(self):
        keep = Keep(2, 1, ("lost", "torn", "worn"))
        for kind in ("noted", "bare"):
            plan = WHOLE.but("sums", (kind,))
            found = sight(keep, plan, 0)
            self.assertEqual(sorted(map(len, (found.seen, found.unseen))), [0, 3])
            for order in itertools.permutations(["old", "torn", "worn"]):
                told = [{shape: row[shape] for shape in order if shape in row} for row in (found.seen, found.unseen)]
                self.assert_shown(found.states, *told, keep=keep, plan=plan)

    def test_each_block(self):
        keep = Keep(1, 2, ("lost",))
        plan = Plan(("bare", "named"), (0,))
        found = sight(keep, plan, 1)
        self.assertTrue(found.shows(keep, plan, 1))
        self.assertFalse(found.shows(keep, plan, 0))

    def test_more_states_than_are_looked_at_elsewhere(self):
        keep, plan = BEYOND[1]
        states = list(reach_by_the_words(keep, plan, most=402))
        torn, old = [("write", 0, ("torn", "done", "done"))], [("write", 0, ("late", "done", "done"))]
        unseen = [("write", 0, ("late", "done", "late"))]
        want = seen_by_the_words(plan, trace(keep, plan, unseen)[-1], 0)
        self.assertEqual(want, [["old"], ["old"]])
        self.assert_shown(states, {"old": old, "torn": torn}, {"old": unseen}, keep=keep, plan=plan)
        self.assert_shown(states, {"old": old}, {"old": unseen}, want=False, keep=keep, plan=plan)


class AttributesTest(unittest.TestCase):
    def assert_equal(self, first, second, want):
        self.assertIs(first == second, want)
        self.assertIs(second == first, want)
        self.assertIs(first != second, not want)

    def test_copied(self):
        states, seen, unseen = list(STATES), {"torn": [TORN]}, {"old": [LOST]}
        found = Sight(states, seen, unseen)
        self.assertEqual((found.states, found.seen, found.unseen), (STATES, {"torn": (TORN,)}, {"old": (LOST,)}))
        self.assertEqual((states, seen, unseen), (STATES, {"torn": [TORN]}, {"old": [LOST]}))
        states.clear()
        seen["torn"].clear()
        seen["worn"] = []
        unseen.clear()
        self.assertTrue(found.shows(ONE, WHOLE, 0))
        self.assertEqual((found.states, found.seen, found.unseen), (STATES, {"torn": (TORN,)}, {"old": (LOST,)}))

    def test_changed_attributes_are_asked(self):
        found = Sight(STATES, {"torn": [TORN]}, {"old": [LOST]})
        for name, wrong, good in (("states", [], STATES * 2), ("seen", {}, {"torn": [DONE, TORN]}),
                                  ("unseen", {"old": [TORN]}, {"old": [LOST, DONE, ROUND, LOST]})):
            setattr(found, name, wrong)
            self.assertIs(found.shows(ONE, WHOLE, 0), False)
            setattr(found, name, good)
            self.assertIs(found.shows(ONE, WHOLE, 0), True)
        found.seen["torn"].append(DONE)
        self.assertIs(found.shows(ONE, WHOLE, 0), False)
        found.seen["torn"].pop()
        found.unseen["torn"] = (TORN,)
        self.assertIs(found.shows(ONE, WHOLE, 0), False)
        del found.unseen["torn"]
        self.assertIs(found.shows(ONE, WHOLE, 0), True)
        found.states.pop(0)
        found.states.pop()
        self.assertEqual(found.states, (STATES * 2)[1:-1])
        self.assertIs(found.shows(ONE, WHOLE, 0), True)

    def test_equality(self):
        parts = (STATES, {"torn": (TORN,)}, {"old": (LOST,)})
        self.assert_equal(Sight(*parts), Sight(list(STATES), {"torn": [TORN]}, {"old": [LOST]}), True)
        for other in ((STATES[::-1],) + parts[1:], (STATES[:-1],) + parts[1:], (STATES, {}, parts[2]),
                      (STATES, {"torn": ()}, parts[2]), parts[:2] + ({},), parts[:2] + ({"old": (DONE, LOST)},),
                      (STATES, parts[2], parts[1])):
            self.assert_equal(Sight(*parts), Sight(*other), False)
        self.assert_equal(Sight([], {}, {}), Safe([]), False)
        self.assert_equal(Sight([], {}, {}), Harmed([]), False)
        self.assert_equal(Sight([], {"old": (), "torn": ()}, {}), Sight([], {"torn": (), "old": ()}, {}), True)


if __name__ == "__main__":
    unittest.main()
