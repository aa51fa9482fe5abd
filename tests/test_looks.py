"""Promise 4: which copies pass, and what a look takes."""

import itertools
import unittest

from builders import CHOICES, KINDS, EqualToAll, cell, copies, one, right, state
from model import look_by_the_words

from quietharm.errors import BadBlock, BadKeep, BadPlan, BadState
from quietharm.keeps import Keep, Plan
from quietharm.looks import look, passes
from quietharm.states import first_state, is_state

ONE = Keep(2, 1, ("lost",))
THREE = Keep(3, 1)
TWO = Keep(3, 2)
WHOLE = Plan(("whole",), (0, 1))
IN_ORDER = Plan(("bare",), (0, 1, 2))
NO = (False, False)
FIRST = one(right(), right())
MINE, OTHER, OLD, OLDER = (0, 0), (1, 0), (0, 1), (0, 2)


class PassesTest(unittest.TestCase):
    def assert_passing(self, halves, *kinds):
        """The first shelf passes for just these kinds; the second one has a right copy."""
        for kind in KINDS:
            with self.subTest(halves=halves, kind=kind):
                plan = Plan((kind, "bare"), (0, 1))
                note = 0 if kind == "noted" else None
                told = (((cell(*halves, note), right(1)), 0), ((right(0, note), cell((0, 1), (1, 1))), 0))
                found = passes(Keep(2, 2), plan, (told, 0, NO), 0)
                self.assertEqual(found, [0, 1] if kind in kinds else [1])

    def test_kinds_of_sums(self):
        self.assert_passing((MINE, MINE), "bare", "whole", "named", "noted")
        self.assert_passing((OLD, OLD), "bare", "whole", "named")
        self.assert_passing((OTHER, OTHER), "bare", "whole")
        self.assert_passing(((1, 1), (1, 1)), "bare", "whole")
        for halves in ((MINE, OLD), (OLD, MINE), (MINE, OTHER), (OTHER, MINE), (OTHER, (1, 1)), (OLD, (1, 1)),
                       (None, None), (None, MINE), (MINE, None), (None, OTHER)):
            self.assert_passing(halves, "bare")

    def test_none_passes(self):
        told = one(cell(MINE, OLD), cell(None, None))
        self.assertEqual(passes(ONE, WHOLE, told, 0), [])
        self.assertEqual(passes(ONE, WHOLE.but("sums", ("bare",)), told, 0), [0, 1])

    def test_note_of_the_next_shelf(self):
        plan = Plan(("noted",), (2, 1, 0))
        for notes in itertools.product((0, 1), repeat=3):
            with self.subTest(notes=notes):
                told = one(*[cell((0, 0), (0, 0), note) for note in notes])
                want = [shelf for shelf in (0, 1, 2) if notes[(shelf + 1) % 3] == 0]
                self.assertEqual(passes(THREE, plan, told, 0), want)
                old = one(*[cell((0, 1), (0, 1), note) for note in notes])
                self.assertEqual(passes(THREE, plan, old, 0), [shelf for shelf in (0, 1, 2) if shelf not in want])

    def test_note_past_shelves_put_out(self):
        plan = Plan(("noted",), (0, 1, 2), limit=2)
        good, bad = right(note=0), right(note=1)
        for cells, want in (((good, None, bad), [2]), ((bad, None, good), [0]), ((None, good, bad), [2]),
                            ((None, bad, good), [1]), ((good, bad, None), [1]), ((bad, good, None), [0])):
            with self.subTest(cells=cells):
                self.assertEqual(passes(THREE, plan, one(*cells), 0), want)

    def test_note_of_the_same_shelf(self):
        plan = Plan(("noted",), (0, 1, 2), limit=1)
        for place in range(3):
            for note, want in ((0, [place]), (1, [])):
                cells = [right(note=note) if shelf == place else None for shelf in range(3)]
                self.assertEqual(passes(THREE, plan, one(*cells), 0), want)
        single = Plan(("noted",), (0,))
        self.assertEqual(passes(Keep(1, 1), single, one(right(note=0)), 0), [0])
        self.assertEqual(passes(Keep(1, 1), single, one(cell(OLD, OLD, 0)), 0), [])
        self.assertEqual(passes(Keep(1, 1), single, one(cell(OLD, OLD, 1)), 0), [0])

    def test_note_is_of_the_same_block(self):
        plan = Plan(("noted", "noted"), (0, 1))
        told = (((right(0, 0), right(1, 1)), 0), ((right(0, 0), right(1, 1)), 0))
        self.assertEqual(passes(Keep(2, 2), plan, (told, 0, NO), 0), [0, 1])
        self.assertEqual(passes(Keep(2, 2), plan, (told, 0, NO), 1), [])

    def test_late_writes_do_not_matter(self):
        plan = Plan(("noted",), (0, 1))
        self.assertEqual(passes(ONE, plan, one(right(note=0, late=1), right(note=0, late=0)), 0), [0, 1])

    def test_given_up_does_not_matter(self):
        self.assertEqual(passes(ONE, WHOLE, one(right(), cell(MINE, None), given_up=True), 0), [0])

    def test_order_of_the_plan_does_not_matter(self):
        for order in itertools.permutations(range(3)):
            told = one(right(), cell(None, MINE), right())
            self.assertEqual(passes(THREE, Plan(("whole",), order), told, 0), [0, 2])


class LookTest(unittest.TestCase):
    def test_example_of_the_interface(self):
        later = one(cell(OLD, OLD), right(), harms=1)
        plan = WHOLE.but("choice", "newest")
        self.assertEqual(look(ONE, WHOLE, later, 0), (OLD, OLD))
        self.assertEqual(look(ONE, plan, later, 0), (MINE, MINE))
        self.assertEqual(passes(ONE, plan, later, 0), [0, 1])

    def test_first(self):
        told = one(cell(MINE, OLD), cell(OLD, OLD), right())
        for order in itertools.permutations(range(3)):
            with self.subTest(order=order):
                found = look(THREE, Plan(("bare",), order), told, 0)
                self.assertEqual(found, ((MINE, OLD), (OLD, OLD), (MINE, MINE))[order[0]])
                found = look(THREE, Plan(("whole",), order), told, 0)
                self.assertEqual(found, (OLD, OLD) if order.index(1) < order.index(2) else (MINE, MINE))

    def test_newest(self):
        told = one(cell(OLDER, MINE), cell(OLD, OLDER), cell(None, MINE))
        for order in itertools.permutations(range(3)):
            plan = Plan(("bare",), order, choice="newest")
            self.assertEqual(look(THREE, plan, told, 0), (OLD, OLDER))
        nothing_younger = one(cell(OLDER, OLDER), cell(None, OLD), cell(OLDER, MINE))
        plan = Plan(("bare",), (2, 1, 0), choice="newest")
        self.assertEqual(look(THREE, plan, nothing_younger, 0), (OLDER, MINE))

    def test_newest_of_several(self):
        told = one(cell(MINE, OLD), cell(OLD, OLD), cell(MINE, None))
        plan = Plan(("bare",), (1, 0, 2), choice="newest")
        self.assertEqual(look(THREE, plan, told, 0), (MINE, OLD))
        self.assertEqual(look(THREE, plan.turned(), told, 0), (MINE, None))

    def test_newest_of_those_that_pass(self):
        told = one(cell(MINE, OLDER), cell(OLDER, OLDER), cell(OLD, OLD))
        self.assertEqual(look(THREE, Plan(("whole",), (0, 1, 2), choice="newest"), told, 0), (OLD, OLD))

    def test_newest_without_a_write_of_this_block(self):
        shelves = (copies((OTHER, OLD), (OTHER, OTHER)), copies((None, MINE), (OTHER, OTHER)),
                   copies((OTHER, MINE), (OTHER, OTHER)))
        told = state(*shelves, given_up=NO)
        for order in itertools.permutations(range(3)):
            plan = Plan(("bare", "bare"), order, choice="newest")
            want = ((OTHER, OLD), (None, MINE), (OTHER, MINE))[order[0]]
            self.assertEqual(look(TWO, plan, told, 0), want)
        worn = one(cell(None, MINE), cell(None, None), cell(None, OLD))
        self.assertEqual(look(THREE, Plan(("bare",), (1, 2, 0), choice="newest"), worn, 0), (None, None))

    def test_newest_passes_over_the_other_block(self):
        shelves = (copies((OTHER, OTHER), (OTHER, OTHER)), copies((OLD, OLD), (OTHER, OTHER)),
                   copies((OTHER, OTHER), (OTHER, OTHER)))
        plan = Plan(("whole", "whole"), (0, 1, 2), choice="newest")
        self.assertEqual(look(TWO, plan, state(*shelves, given_up=NO), 0), (OLD, OLD))

    def test_most(self):
        told = one(right(), cell(OLD, OLD), cell(OLD, OLD))
        for order in itertools.permutations(range(3)):
            self.assertEqual(look(THREE, Plan(("bare",), order, choice="most"), told, 0), (OLD, OLD))

    def test_most_counts_only_those_that_pass(self):
        told = one(cell(MINE, OLD), right(), cell(MINE, OLD))
        self.assertEqual(look(THREE, IN_ORDER.but("choice", "most"), told, 0), (MINE, OLD))
        self.assertEqual(look(THREE, Plan(("whole",), (0, 1, 2), choice="most"), told, 0), (MINE, MINE))

    def test_most_of_several(self):
        told = one(right(), cell(OLD, OLD), cell(OLDER, None))
        for order in itertools.permutations(range(3)):
            want = ((MINE, MINE), (OLD, OLD), (OLDER, None))[order[0]]
            self.assertEqual(look(THREE, Plan(("bare",), order, choice="most"), told, 0), want)
        self.assertEqual(look(ONE, Plan(("bare",), (1, 0), choice="most"), one(right(), cell(OLD, OLD)), 0), (OLD, OLD))

    def test_notes_and_late_writes_are_no_halves(self):
        plan = Plan(("noted",), (2, 1, 0), choice="most")
        told = one(right(note=1, late=2), right(note=0), cell(OLD, OLD, 0, 2))
        self.assertEqual(look(THREE, plan, told, 0), (MINE, MINE))
        told = one(right(note=0), cell(OLD, OLD, 1), right(note=0))
        self.assertEqual(passes(THREE, plan, told, 0), [2])

    def test_given_up(self):
        for choice in CHOICES:
            plan = WHOLE.but("choice", choice)
            self.assertIsNone(look(ONE, plan, one(right(), right(), given_up=True), 0))
        shelves = (copies((MINE, MINE), (OTHER, OTHER)),) * 3
        plan = Plan(("bare", "bare"), (0, 1, 2))
        self.assertIsNone(look(TWO, plan, state(*shelves, given_up=(True, False)), 0))
        self.assertEqual(look(TWO, plan, state(*shelves, given_up=(True, False)), 1), (OTHER, OTHER))

    def test_no_copy_passes(self):
        told = one(cell(MINE, OLD), cell(None, None))
        for choice in CHOICES:
            for kind in KINDS[1:3]:
                self.assertIsNone(look(ONE, Plan((kind,), (0, 1), choice=choice), told, 0))
        self.assertIsNone(look(ONE, Plan(("noted",), (0, 1)), one(right(note=1), right(note=1)), 0))

    def test_shelves_put_out(self):
        for choice in CHOICES:
            plan = Plan(("whole",), (0, 1, 2), choice=choice, limit=1)
            self.assertEqual(look(THREE, plan, one(None, cell(OLD, OLD), None), 0), (OLD, OLD))
            self.assertIsNone(look(THREE, plan, one(None, cell(OLD, MINE), None), 0))
        self.assertEqual(look(THREE, IN_ORDER.but("limit", 1), one(None, right(), cell(OLD, OLD)), 0), (MINE, MINE))


class SweepTest(unittest.TestCase):
    def assert_as_told(self, keep, plan, told):
        for block in range(keep.blocks):
            found = (passes(keep, plan, told, block), look(keep, plan, told, block))
            self.assertEqual(found, look_by_the_words(plan, told, block), (vars(plan), told, block))

    def test_one_block_on_three_shelves(self):
        pairs = list(itertools.product((None, MINE, OLD), repeat=2))
        plans = [Plan(("bare",), (1, 2, 0), choice="newest"), Plan(("whole",), (2, 0, 1), choice="most"),
                 Plan(("bare",), (0, 2, 1), choice="most"), Plan(("named",), (2, 1, 0), choice="first")]
        for some in itertools.product(pairs, repeat=3):
            for plan in plans:
                self.assert_as_told(THREE, plan, one(*[cell(*pair) for pair in some]))

    def test_notes_and_shelves_put_out(self):
        cells = [None] + [cell(half, half, note) for half in (MINE, OLD, OLDER) for note in (0, 1, 2)]
        for choice, order in zip(CHOICES, ((2, 0, 1), (1, 0, 2), (0, 2, 1))):
            plan = Plan(("noted",), order, choice=choice, limit=2)
            for some in itertools.product(cells, repeat=3):
                told = one(*some)
                if is_state(THREE, plan, told):
                    self.assert_as_told(THREE, plan, told)

    def test_two_blocks(self):
        pairs = [(MINE, MINE), (OTHER, OTHER), (OLD, OLD), (OTHER, MINE), (None, MINE), (MINE, OTHER)]
        plans = [Plan(sums, order, choice=choice) for sums in (("bare", "whole"), ("named", "bare"))
                 for order in ((1, 0), (0, 1)) for choice in CHOICES]
        for some in itertools.product(pairs, repeat=4):
            told = state(copies(*some[:2]), copies(*some[2:]), given_up=NO)
            for plan in plans:
                if is_state(Keep(2, 2), plan, told):
                    self.assert_as_told(Keep(2, 2), plan, told)


class CallsTest(unittest.TestCase):
    def test_errors_in_their_order(self):
        for ask in (passes, look):
            for keep in (None, WHOLE, 2):
                with self.assertRaises(BadKeep) as caught:
                    ask(keep, None, None, None)
                self.assertIsNone(caught.exception.part)
            for plan in (None, ONE, Plan(("whole",), (0,)), Plan(("whole",) * 2, (0, 1))):
                with self.assertRaises(BadPlan) as caught:
                    ask(ONE, plan, None, None)
                self.assertIsNone(caught.exception.part)
            for told in (None, 0, list(FIRST), one(right(), right(), harms=2), one(right(note=0), right(note=0))):
                with self.assertRaises(BadState):
                    ask(ONE, WHOLE, told, None)
            for block in (None, True, False, -1, 1, "0", (0,), [0], {}, object(), EqualToAll()):
                with self.assertRaises(BadBlock):
                    ask(ONE, WHOLE, FIRST, block)

    def test_list_may_be_changed(self):
        told = passes(ONE, WHOLE, FIRST, 0)
        told.append(7)
        self.assertEqual(passes(ONE, WHOLE, FIRST, 0), [0, 1])
        self.assertEqual(FIRST, first_state(ONE, WHOLE))


if __name__ == "__main__":
    unittest.main()
