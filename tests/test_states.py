"""Promise 3: states, what is one and what is none, and right copies."""

import copy
import unittest

from builders import EqualToAll, all_pairs, cell, copies, one, parts_replaced, right, state, tuples_spoilt

from quietharm.errors import BadBlock, BadKeep, BadPlan, BadState
from quietharm.keeps import Keep, Plan
from quietharm.states import first_state, is_state, right_shelves

ONE = Keep(2, 1, ("lost",), most=2)
WHOLE = Plan(("whole",), (0, 1))
NOTED = WHOLE.but("sums", ("noted",))
STRICT = WHOLE.but("limit", 1)
PATIENT = WHOLE.but("limit", 2)
TWO = Keep(2, 2)
MIXED = Plan(("noted", "named"), (1, 0), limit=2)
THREE = Keep(3, 1)
THREE_STRICT = Plan(("named",), (2, 0, 1), limit=1)
FIRST = one(right(), right())
OLD = cell((0, 1), (0, 1))
ODD_THINGS = (-1, "x", [], {}, {"x"}, b"x", (), (1,), ("x",), object(), len, 10 ** 30, EqualToAll())


class FirstStateTest(unittest.TestCase):
    def test_one_block(self):
        self.assertEqual(first_state(ONE, WHOLE), FIRST)
        self.assertEqual(first_state(ONE, NOTED), one(right(note=0), right(note=0)))
        self.assertEqual(first_state(ONE, STRICT), FIRST)
        self.assertEqual(first_state(Keep(1, 1), Plan(("bare",), (0,))), one(right()))

    def test_two_blocks(self):
        shelf = ((right(0, note=0), right(1)), 0)
        self.assertEqual(first_state(TWO, MIXED), ((shelf, shelf), 0, (False, False)))
        self.assertEqual(first_state(Keep(1, 2), Plan(("whole", "noted"), (0,))),
                         ((((right(0), right(1, note=0)), 0),), 0, (False, False)))

    def test_all_kinds(self):
        for keep, plan in all_pairs():
            with self.subTest(keep=vars(keep), plan=vars(plan)):
                cells = tuple(right(block, 0 if kind == "noted" else None) for block, kind in enumerate(plan.sums))
                told = first_state(keep, plan)
                self.assertEqual(told, (((cells, 0),) * keep.shelves, 0, (False,) * keep.blocks))
                self.assertIs(told[0][0][1], 0)
                self.assertTrue(is_state(keep, plan, told))


class IsStateTest(unittest.TestCase):
    def assert_state(self, keep, plan, thing):
        with self.subTest(thing=thing):
            self.assertIs(is_state(keep, plan, thing), True)

    def assert_none(self, keep, plan, thing):
        with self.subTest(thing=thing):
            self.assertIs(is_state(keep, plan, thing), False)

    def test_example_of_the_interface(self):
        self.assert_state(Keep(2, 1, ("lost",)), WHOLE.but("choice", "newest"),
                          ((((((0, 1), (0, 1), None, None),), 0), ((((0, 0), (0, 0), None, None),), 0)), 1, (False,)))

    def test_halves(self):
        for halves in ((None, (0, 0)), ((0, 0), None), (None, None), ((0, 1), (0, 0)), ((0, 0), (0, 1)),
                       ((0, 1), (0, 2)), ((0, 2), (0, 1)), ((0, 1), None)):
            self.assert_state(ONE, WHOLE, one(cell(*halves), right()))
            self.assert_state(ONE, WHOLE, one(right(), cell(*halves)))

    def test_halves_of_the_other_block(self):
        plan = Plan(("named", "bare"), (0, 1))
        no = (False, False)
        self.assert_state(TWO, plan, state(copies(((1, 0), (1, 0)), ((0, 0), (0, 0))),
                                           copies(((0, 0), (1, 0)), ((1, 1), (0, 1))), given_up=no))
        self.assert_state(TWO, plan, state(copies(((1, 0), (1, 1)), ((1, 2), None)),
                                           copies(((1, 3), (1, 4)), ((1, 5), (1, 6))), given_up=no))
        self.assert_none(TWO, plan, state(copies(((1, 2), (0, 0)), ((1, 0), (1, 0))),
                                          copies(((0, 1), (0, 0)), ((1, 0), (1, 0))), given_up=no))
        self.assert_none(ONE, WHOLE, one(cell((1, 0), (1, 0)), right()))
        self.assert_none(TWO, plan, state(copies(((2, 0), (0, 0)), ((1, 0), (1, 0))),
                                          copies(((0, 0), (0, 0)), ((1, 0), (1, 0))), given_up=no))

    def test_older_ages(self):
        self.assert_state(ONE, WHOLE, one(cell((0, 4), (0, 2)), cell((0, 1), (0, 3))))
        self.assert_state(ONE, WHOLE, one(OLD, OLD))
        self.assert_state(ONE, WHOLE, one(cell(None, None), cell(None, None)))
        self.assert_state(ONE, WHOLE, one(OLD, cell((0, 2), None)))

    def test_older_writes_in_notes_or_late_alone(self):
        self.assert_state(ONE, NOTED, one(right(note=1), right(note=0)))
        self.assert_state(ONE, NOTED, one(right(note=2), right(note=1)))
        self.assert_state(ONE, NOTED, one(right(note=1), cell((0, 2), (0, 2), 0)))
        self.assert_state(ONE, WHOLE, one(right(late=1), right()))
        self.assert_state(ONE, WHOLE, one(right(late=2), right(late=1)))
        self.assert_state(ONE, NOTED, one(right(note=1, late=2), cell(None, (0, 3), 1, 4)))
        self.assert_state(ONE, NOTED, one(cell(None, None, 1), cell(None, None, 1)))
        self.assert_state(ONE, WHOLE, one(cell(None, None, None, 1), cell(None, None)))

    def test_late_of_the_last_write(self):
        self.assert_state(Keep(2, 1), WHOLE, one(right(late=0), cell((0, 1), (0, 1), None, 0)))

    def test_notes_of_each_block_apart(self):
        self.assert_state(TWO, MIXED, (((((None, None, 1, None), (None, None, None, None)), 0),
                                        ((right(0, note=0), right(1, late=1)), 1)), 0, (True, False)))
        self.assert_none(TWO, MIXED, (((((None, None, 2, None), ((1, 1), (1, 1), None, None)), 0),
                                       ((right(0, note=0), right(1, late=1)), 1)), 0, (True, False)))
        self.assert_none(TWO, MIXED, (((((None, None, 1, None), (None, None, None, None)), 0),
                                       ((right(0, note=0), right(1, late=2)), 1)), 0, (True, False)))

    def test_ages_that_are_not_numbered_so(self):
        gap = (0, 2)
        for halves in ((gap, (0, 0)), ((0, 0), gap), (gap, gap), (gap, None), (None, gap), ((0, 1), (0, 3))):
            self.assert_none(ONE, WHOLE, one(cell(*halves), right()))
            self.assert_none(ONE, WHOLE, one(right(), cell(*halves)))
        self.assert_none(ONE, NOTED, one(right(note=2), right(note=0)))
        self.assert_none(ONE, NOTED, one(right(note=0), right(note=2)))
        self.assert_none(ONE, WHOLE, one(right(late=2), right()))
        self.assert_none(ONE, WHOLE, one(right(late=3), cell((0, 1), None)))
        self.assert_none(ONE, NOTED, one(right(note=0, late=2), right(note=0)))
        self.assert_none(ONE, WHOLE, one(right(late=10 ** 30), right()))

    def test_ages_below_0(self):
        self.assert_none(ONE, WHOLE, one(cell((0, -1), (0, 0)), right()))
        self.assert_none(ONE, WHOLE, one(cell((0, 0), (0, -1)), right()))
        self.assert_none(ONE, NOTED, one(right(note=-1), right(note=0)))
        self.assert_none(ONE, WHOLE, one(right(late=-1), right()))

    def test_tallies(self):
        for tallies in ((0, 1), (1, 0), (1, 1)):
            self.assert_state(ONE, PATIENT, one(right(), OLD, tallies=tallies))
            self.assert_none(ONE, STRICT, one(right(), OLD, tallies=tallies))
            self.assert_none(ONE, WHOLE, one(right(), OLD, tallies=tallies))
        for tallies in ((0, 2), (2, 1), (2, 2), (0, 3), (0, -1)):
            self.assert_none(ONE, PATIENT, one(right(), OLD, tallies=tallies))

    def test_tally_of_the_last_shelf_left(self):
        for plan, limit in ((STRICT, 1), (PATIENT, 2)):
            for tally in range(-1, 5):
                for thing in (one(right(), None, tallies=(tally, 0)), one(None, right(), tallies=(0, tally))):
                    self.assertIs(is_state(ONE, plan, thing), 0 <= tally <= limit)
                single = Plan(("whole",), (0,), limit=limit)
                self.assertIs(is_state(Keep(1, 1), single, one(right(), tallies=(tally,))), 0 <= tally <= limit)
        self.assertIs(is_state(Keep(1, 1), Plan(("whole",), (0,)), one(right(), tallies=(1,))), False)

    def test_shelves_put_out(self):
        for thing in (one(None, right()), one(OLD, None)):
            self.assert_state(ONE, STRICT, thing)
            self.assert_state(ONE, PATIENT, thing)
            self.assert_none(ONE, WHOLE, thing)
        for plan in (WHOLE, STRICT, PATIENT):
            self.assert_none(ONE, plan, one(None, None))
        self.assert_none(Keep(1, 1), Plan(("whole",), (0,), limit=1), one(None))
        self.assert_state(THREE, THREE_STRICT, one(None, right(), None, tallies=(0, 1, 0)))
        self.assert_state(THREE, THREE_STRICT, one(right(), None, OLD))
        self.assert_none(THREE, THREE_STRICT, one(right(), None, OLD, tallies=(0, 0, 1)))
        self.assert_none(THREE, THREE_STRICT, one(None, cell((0, 2), (0, 1)), cell((0, 3), None), tallies=(0, 1, 0)))

    def test_harms(self):
        for most in (0, 1, 2):
            keep = Keep(2, 1, most=most)
            for harms in range(-1, 5):
                self.assertIs(is_state(keep, WHOLE, one(right(), right(), harms=harms)), 0 <= harms <= most)

    def test_given_up(self):
        self.assert_state(ONE, WHOLE, one(right(), right(), given_up=True))
        for flags in ((), (False, False), (0,), (1,), (None,), False, [False], ((False,),), None, ("no",)):
            self.assert_none(ONE, WHOLE, (FIRST[0], 0, flags))
        start = first_state(TWO, MIXED)
        for flags in ((False, True), (True, False), (True, True)):
            self.assert_state(TWO, MIXED, (start[0], 1, flags))
        self.assert_none(TWO, MIXED, (start[0], 0, (False,)))
        self.assert_none(TWO, MIXED, (start[0], 0, (False, 0)))

    def test_notes_by_the_kind(self):
        for kind in ("bare", "whole", "named", "noted"):
            plan = WHOLE.but("sums", (kind,))
            self.assertIs(is_state(ONE, plan, one(right(note=0), right(note=0))), kind == "noted")
            self.assertIs(is_state(ONE, plan, one(right(), right())), kind != "noted")
            self.assert_none(ONE, plan, one(right(), right(note=0)))
            self.assert_none(ONE, plan, one(right(note=0), right()))

    def test_booleans_for_integers(self):
        for flag in (False, True):
            self.assert_none(ONE, WHOLE, one(cell((flag, 0), (0, 0)), right()))
            self.assert_none(ONE, WHOLE, one(cell((0, 0), (0, flag)), right()))
            self.assert_none(ONE, NOTED, one(right(note=flag), cell((0, 1), None, 0)))
            self.assert_none(ONE, WHOLE, one(right(late=flag), OLD))
            self.assert_none(ONE, PATIENT, one(right(), OLD, tallies=(0, flag)))
            self.assert_none(ONE, WHOLE, one(right(), right(), harms=flag))

    def test_none_where_it_may_not_be(self):
        self.assert_none(ONE, WHOLE, one(cell((0, None), (0, 0)), right()))
        self.assert_none(ONE, WHOLE, one(cell((None, 0), (0, 0)), right()))
        self.assert_none(ONE, WHOLE, one(right(), right(), harms=None))
        self.assert_none(ONE, WHOLE, one(right(), right(), tallies=(None, 0)))
        self.assert_none(ONE, STRICT, (((None, 0), ((right(),), 0)), 0, (False,)))
        self.assert_none(ONE, STRICT, ((((None,), 0), ((right(),), 0)), 0, (False,)))

    def test_groups_of_a_wrong_size_and_lists(self):
        for keep, plan in ((ONE, WHOLE), (ONE, NOTED), (TWO, MIXED), (THREE, THREE_STRICT)):
            for thing in tuples_spoilt(first_state(keep, plan)):
                self.assert_none(keep, plan, thing)
        self.assert_none(ONE, STRICT, [(None, FIRST[0][0]), 0, (False,)])
        self.assert_none(ONE, WHOLE, first_state(TWO, MIXED))
        self.assert_none(ONE, WHOLE, first_state(Keep(3, 1), Plan(("whole",), (0, 1, 2))))
        self.assert_none(TWO, MIXED, first_state(ONE, NOTED))

    def test_things_of_other_kinds(self):
        for thing in ODD_THINGS + (None, True, 0, ONE, WHOLE):
            self.assert_none(ONE, WHOLE, thing)
        for keep, plan in ((ONE, WHOLE), (ONE, NOTED), (TWO, MIXED), (THREE, THREE_STRICT)):
            for thing in parts_replaced(first_state(keep, plan), ODD_THINGS):
                self.assert_none(keep, plan, thing)

    def test_errors(self):
        for keep in (None, True, "keep", (2, 1), [ONE], WHOLE):
            for ask in (lambda: is_state(keep, None, FIRST), lambda: first_state(keep, None)):
                with self.assertRaises(BadKeep) as caught:
                    ask()
                self.assertIsNone(caught.exception.part)
        for plan in (None, True, "plan", ("whole",), ONE, Plan(("whole", "whole"), (0, 1)), Plan(("whole",), (0,)),
                     Plan(("whole",), (0, 1, 2))):
            for ask in (lambda: is_state(ONE, plan, None), lambda: first_state(ONE, plan)):
                with self.assertRaises(BadPlan) as caught:
                    ask()
                self.assertIsNone(caught.exception.part)

    def test_arguments_are_not_changed(self):
        thing = ([[[[0, 0], [0, 0], None, None]], 0], 0, [False])
        before = copy.deepcopy(thing)
        self.assert_none(ONE, WHOLE, thing)
        self.assertEqual(thing, before)


class RightShelvesTest(unittest.TestCase):
    def test_one_block(self):
        for spoilt in (OLD, cell((0, 0), (0, 1)), cell((0, 1), (0, 0)), cell(None, (0, 0)), cell((0, 0), None),
                       cell(None, None), cell((0, 1), None)):
            with self.subTest(spoilt=spoilt):
                rest = [cell((0, 1), (0, 1))]
                self.assertEqual(right_shelves(THREE, THREE_STRICT, one(right(), spoilt, *rest), 0), [0])
                self.assertEqual(right_shelves(THREE, THREE_STRICT, one(spoilt, right(), right()), 0), [1, 2])
        self.assertEqual(right_shelves(ONE, WHOLE, one(OLD, OLD), 0), [])
        self.assertEqual(right_shelves(ONE, WHOLE, FIRST, 0), [0, 1])

    def test_notes_late_writes_and_given_up_do_not_matter(self):
        told = one(right(note=1, late=2), right(note=0), given_up=True)
        self.assertEqual(right_shelves(ONE, NOTED, told, 0), [0, 1])

    def test_two_blocks(self):
        plan = Plan(("bare", "named"), (0, 1))
        right_one, right_other = ((0, 0), (0, 0)), ((1, 0), (1, 0))
        told = state(copies(right_other, right_other), copies(right_one, ((0, 0), (1, 0))), given_up=(False, True))
        self.assertEqual(right_shelves(TWO, plan, told, 0), [1])
        self.assertEqual(right_shelves(TWO, plan, told, 1), [0])
        strange = state(copies(right_other, right_one), copies(right_other, right_one), given_up=(False, False))
        self.assertEqual([right_shelves(TWO, plan, strange, block) for block in (0, 1)], [[], []])

    def test_shelves_put_out(self):
        self.assertEqual(right_shelves(THREE, THREE_STRICT, one(None, right(), None), 0), [1])
        self.assertEqual(right_shelves(THREE, THREE_STRICT, one(right(), None, right()), 0), [0, 2])
        self.assertEqual(right_shelves(THREE, THREE_STRICT, one(None, None, OLD), 0), [])

    def test_order_of_the_plan_does_not_matter(self):
        self.assertEqual(right_shelves(ONE, WHOLE.turned(), FIRST, 0), [0, 1])

    def test_errors_in_their_order(self):
        with self.assertRaises(BadKeep) as caught:
            right_shelves(None, None, None, None)
        self.assertIsNone(caught.exception.part)
        for plan in (None, Plan(("whole",), (0,)), Plan(("whole",) * 2, (0, 1))):
            with self.assertRaises(BadPlan) as caught:
                right_shelves(ONE, plan, None, None)
            self.assertIsNone(caught.exception.part)
        for thing in (None, [], list(FIRST), one(right(), None), one(right(late=2), right())):
            with self.assertRaises(BadState):
                right_shelves(ONE, WHOLE, thing, None)
        for block in (None, True, False, -1, 1, 2, "0", (0,), [0], {}, object(), EqualToAll()):
            with self.assertRaises(BadBlock):
                right_shelves(ONE, WHOLE, FIRST, block)
        with self.assertRaises(BadBlock):
            right_shelves(TWO, MIXED, first_state(TWO, MIXED), 2)

    def test_list_may_be_changed(self):
        told = right_shelves(ONE, WHOLE, FIRST, 0)
        told.clear()
        self.assertEqual(right_shelves(ONE, WHOLE, FIRST, 0), [0, 1])
        self.assertEqual(FIRST, one(right(), right()))


if __name__ == "__main__":
    unittest.main()
