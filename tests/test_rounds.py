"""Promise 6: what a round takes, which copies are bad in it, and the state behind it."""

import itertools
import unittest

from builders import CHOICES, EqualToAll, cell, one, right

from quietharm.deeds import after
from quietharm.errors import BadKeep, BadPlan, BadState
from quietharm.keeps import Keep, Plan
from quietharm.rounds import found_by_round
from quietharm.states import first_state, is_state

ROUND = ("round",)
ONE = Keep(2, 1, ("late", "lost", "torn", "worn"), most=2)
THREE = Keep(3, 1, ONE.harms, most=2)
TWO = Keep.full(2, 2, most=2)
WHOLE = Plan(("whole",), (0, 1))
BARE = WHOLE.but("sums", ("bare",))
NOTED = WHOLE.but("sums", ("noted",))
SET = WHOLE.but("mends", False)
MINE, OLD, OLDER = (0, 0), (0, 1), (0, 2)
OTHER = (1, 0)
AGED = cell(OLD, OLD)
TORN = cell(MINE, OLD)
WORN = cell(None, MINE)
STRANGE = cell(OTHER, OTHER)
NO = (False, False)


def two(*cells, harms=0, given_up=NO, tallies=(0, 0)):
    """A state of two shelves: the cells of both blocks on the first one, then on the second one."""
    return (((cells[:2], tallies[0]), (cells[2:], tallies[1])), harms, given_up)


class RoundTest(unittest.TestCase):
    def assert_round(self, keep, plan, told, found, want):
        self.assertEqual(found_by_round(keep, plan, told), found)
        self.assertEqual(after(keep, plan, told, ROUND), want)
        self.assertTrue(is_state(keep, plan, want))


class FoundTest(RoundTest):
    def test_first_state(self):
        for plan in (WHOLE, SET, BARE, WHOLE.but("limit", 1)):
            start = first_state(ONE, plan)
            self.assert_round(ONE, plan, start, ([(MINE, MINE)], []), start)

    def test_nothing_found(self):
        told = one(TORN, WORN, harms=2)
        for plan in (WHOLE, SET, WHOLE.but("limit", 1)):
            self.assert_round(ONE, plan, told, ([None], []), one(TORN, WORN, given_up=True))
        told = one(right(), AGED, given_up=True)
        self.assert_round(ONE, WHOLE, told, ([None], []), told)

    def test_ages_are_those_of_this_state(self):
        told = one(cell(OLDER, OLDER), cell(MINE, OLD))
        self.assert_round(ONE, WHOLE, told, ([(OLDER, OLDER)], [(1, 0)]), one(AGED, AGED))
        self.assert_round(ONE, SET, told, ([(OLDER, OLDER)], [(1, 0)]), told)

    def test_bad_by_blocks_then_by_shelves(self):
        keep, plan = Keep.full(3, 2), Plan(("bare", "bare"), (1, 2, 0))
        shelves = tuple(((first, second), 0) for first, second in
                        ((AGED, right(1)), (right(), cell(OTHER, None)), (TORN, cell((1, 1), OTHER))))
        told = (shelves, 0, NO)
        want = ([(MINE, MINE), (OTHER, None)], [(0, 0), (2, 0), (0, 1), (2, 1)])
        self.assertEqual(found_by_round(keep, plan, told), want)
        self.assertEqual(found_by_round(keep, plan, (shelves, 0, (True, False))), ([None, want[0][1]], want[1][2:]))
        self.assertEqual(found_by_round(keep, plan, (shelves, 0, (False, True))), ([want[0][0], None], want[1][:2]))

    def test_choices(self):
        told = one(AGED, right(), AGED)
        for choice, order in itertools.product(CHOICES, itertools.permutations(range(3))):
            plan = Plan(("whole",), order, choice=choice)
            is_right = choice == "newest" or choice == "first" and order[0] == 1
            if is_right:
                self.assert_round(THREE, plan, told, ([(MINE, MINE)], [(0, 0), (2, 0)]), one(*[right()] * 3))
            else:
                self.assert_round(THREE, plan, told, ([(OLD, OLD)], [(1, 0)]), one(AGED, AGED, AGED))

    def test_shelves_put_out_are_not_bad(self):
        plan = Plan(("whole",), (0, 1, 2), limit=2)
        self.assert_round(THREE, plan, one(None, right(), AGED), ([(MINE, MINE)], [(2, 0)]),
                          one(None, right(), right(), tallies=(0, 0, 1)))

    def test_lists_are_new(self):
        told = one(right(), AGED)
        halves, bad = found_by_round(ONE, WHOLE, told)
        halves.clear()
        bad.append(7)
        self.assertEqual(found_by_round(ONE, WHOLE, told), ([(MINE, MINE)], [(1, 0)]))
        self.assertEqual(told, one(right(), AGED))

    def test_errors_in_their_order(self):
        start = first_state(ONE, WHOLE)
        for keep in (None, WHOLE, EqualToAll()):
            with self.assertRaises(BadKeep) as caught:
                found_by_round(keep, None, None)
            self.assertIsNone(caught.exception.part)
        for plan in (None, ONE, Plan(("whole",), (0,)), Plan(("whole",) * 2, (0, 1))):
            with self.assertRaises(BadPlan) as caught:
                found_by_round(ONE, plan, None)
            self.assertIsNone(caught.exception.part)
        for told in (None, list(start), one(right(note=0), right(note=0)), one(right(), right(), harms=3), EqualToAll()):
            with self.assertRaises(BadState):
                found_by_round(ONE, WHOLE, told)


class MendTest(RoundTest):
    def test_from_a_right_copy(self):
        for bad in (AGED, TORN, WORN, cell(None, None)):
            self.assert_round(ONE, BARE, one(right(), bad, harms=1), ([(MINE, MINE)], [(1, 0)]), one(right(), right()))
            self.assert_round(ONE, BARE.but("mends", False), one(right(), bad, harms=1), ([(MINE, MINE)], [(1, 0)]),
                              one(right(), bad))

    def test_from_a_wrong_copy(self):
        for bad in (AGED, TORN, WORN, cell(None, None)):
            halves = bad[:2]
            want = AGED if bad == AGED else bad
            self.assert_round(ONE, BARE, one(bad, right()), ([halves], [(1, 0)]), one(want, want))

    def test_bad_copies_of_other_kinds_are_mended_too(self):
        told = one(right(), cell(None, OLD), cell(OLDER, OLDER))
        self.assert_round(THREE, Plan(("named",), (2, 1, 0), choice="newest"), told,
                          ([(MINE, MINE)], [(1, 0), (2, 0)]), one(right(), right(), right()))

    def test_other_block_is_not_touched(self):
        plan = Plan(("whole", "whole"), (0, 1))
        told = two(right(), cell(OTHER, None), AGED, cell((1, 1), (1, 1)))
        want = two(right(), right(1), right(), right(1))
        self.assert_round(TWO, plan, told, ([(MINE, MINE), ((1, 1), (1, 1))], [(1, 0), (0, 1)]),
                          two(right(), cell((1, 1), (1, 1)), right(), cell((1, 1), (1, 1))))
        told = two(right(), right(1), AGED, cell(None, None))
        self.assert_round(TWO, plan, told, ([(MINE, MINE), (OTHER, OTHER)], [(1, 0), (1, 1)]), want)
        told = two(right(), TORN, AGED, cell(None, OTHER))
        self.assert_round(TWO, plan, told, ([(MINE, MINE), None], [(1, 0)]),
                          two(right(), TORN, right(), cell(None, OTHER), given_up=(False, True)))
        told = two(cell(None, MINE), TORN, TORN, right(1))
        self.assert_round(TWO, plan, told, ([None, (OTHER, OTHER)], [(0, 1)]),
                          two(cell(None, MINE), right(1), TORN, right(1), given_up=(True, False)))

    def test_from_a_write_of_the_other_block(self):
        plan = Plan(("whole", "named"), (0, 1))
        told = two(STRANGE, right(1), right(), right(1))
        self.assert_round(TWO, plan, told, ([(OTHER, OTHER), (OTHER, OTHER)], [(1, 0)]),
                          two(STRANGE, right(1), STRANGE, right(1)))
        self.assert_round(TWO, plan.turned(), told, ([(MINE, MINE), (OTHER, OTHER)], [(0, 0)]),
                          two(right(), right(1), right(), right(1)))

    def test_halves_of_a_write_that_is_mended_away_move_up(self):
        told = one(right(), cell(OLD, OLDER), cell(MINE, (0, 3)))
        plan = Plan(("bare",), (1, 0, 2))
        want = one(*[cell(OLD, OLDER)] * 3)
        self.assert_round(THREE, plan, told, ([(OLD, OLDER)], [(0, 0), (2, 0)]), want)
        plan = Plan(("bare",), (2, 0, 1))
        self.assert_round(THREE, plan, told, ([(MINE, (0, 3))], [(0, 0), (1, 0)]), one(*[TORN] * 3))


class NoteTest(RoundTest):
    def test_all_notes_get_the_age_of_what_is_taken(self):
        told = one(cell(OLD, OLD, 0), right(note=1))
        self.assert_round(ONE, NOTED, told, ([(OLD, OLD)], [(1, 0)]), one(cell(OLD, OLD, 1), cell(OLD, OLD, 1)))
        self.assert_round(ONE, NOTED.but("choice", "newest"), told, ([(MINE, MINE)], [(0, 0)]),
                          one(right(note=0), right(note=0)))

    def test_notes_of_good_copies_too(self):
        told = one(right(note=1), right(note=0))
        self.assert_round(ONE, NOTED, told, ([(MINE, MINE)], []), one(right(note=0), right(note=0)))
        told = one(right(note=3), right(note=0), cell(None, OLDER, 1))
        self.assert_round(THREE, Plan(("noted",), (0, 1, 2)), told, ([(MINE, MINE)], [(2, 0)]),
                          one(*[right(note=0)] * 3))

    def test_notes_stay_if_nothing_is_mended(self):
        told = one(cell(OLD, OLD, 0), right(note=1))
        self.assert_round(ONE, NOTED.but("mends", False), told, ([(OLD, OLD)], [(1, 0)]), told)
        told = one(right(note=1), right(note=1))
        self.assert_round(ONE, NOTED, told, ([None], []), one(right(note=1), right(note=1), given_up=True))

    def test_notes_of_each_block_apart(self):
        plan = Plan(("noted", "noted"), (0, 1))
        told = two(right(0, 1), right(1, 1), right(0, 0), right(1, 1))
        self.assert_round(TWO, plan, told, ([(MINE, MINE), None], []),
                          two(right(0, 0), right(1, 1), right(0, 0), right(1, 1), given_up=(False, True)))
        plan = Plan(("bare", "noted"), (0, 1))
        told = two(right(), cell((1, 1), (1, 1), 0), right(), right(1, 1))
        old = cell((1, 1), (1, 1), 1)
        self.assert_round(TWO, plan, told, ([(MINE, MINE), ((1, 1), (1, 1))], [(1, 1)]), two(right(), old, right(), old))

    def test_no_notes_with_other_kinds(self):
        plan = Plan(("bare", "noted"), (0, 1))
        for bad in (STRANGE, WORN, cell(None, None), cell(OTHER, None)):
            told = two(bad, right(1, 0), right(), right(1, 0))
            self.assert_round(TWO, plan, told, ([bad[:2], (OTHER, OTHER)], [(1, 0)]),
                              two(bad, right(1, 0), bad, right(1, 0)))


class LimitTest(RoundTest):
    def test_without_a_limit_nothing_is_counted(self):
        told = one(right(), AGED)
        self.assert_round(ONE, SET, told, ([(MINE, MINE)], [(1, 0)]), told)

    def test_tallies(self):
        plan = SET.but("limit", 2)
        told = one(right(), AGED)
        later = one(right(), AGED, tallies=(0, 1))
        self.assert_round(ONE, plan, told, ([(MINE, MINE)], [(1, 0)]), later)
        self.assert_round(ONE, plan, later, ([(MINE, MINE)], [(1, 0)]), one(right(), None))
        self.assert_round(ONE, plan.but("mends", True), told, ([(MINE, MINE)], [(1, 0)]),
                          one(right(), right(), tallies=(0, 1)))

    def test_tallies_stay_where_copies_are_good(self):
        plan = WHOLE.but("limit", 2)
        told = one(right(), right(), tallies=(1, 1), harms=2)
        self.assert_round(ONE, plan, told, ([(MINE, MINE)], []), one(right(), right(), tallies=(1, 1)))
        told = one(TORN, WORN, tallies=(1, 1))
        self.assert_round(ONE, plan, told, ([None], []), one(TORN, WORN, tallies=(1, 1), given_up=True))

    def test_limit_of_one(self):
        for mends in (True, False):
            plan = Plan(("whole",), (1, 0), mends=mends, limit=1)
            self.assert_round(ONE, plan, one(AGED, right()), ([(MINE, MINE)], [(0, 0)]), one(None, right()))

    def test_both_blocks_are_counted(self):
        told = two(right(), right(1), AGED, cell((1, 1), (1, 1)))
        found = ([(MINE, MINE), (OTHER, OTHER)], [(1, 0), (1, 1)])
        good = ((right(), right(1)), 0)
        for limit in (1, 2):
            plan = Plan(("whole", "whole"), (0, 1), limit=limit)
            self.assert_round(TWO, plan, told, found, ((good, None), 0, NO))
        told = two(right(), right(1), right(), cell((1, 1), (1, 1)))
        plan = Plan(("whole", "whole"), (0, 1), limit=2)
        self.assert_round(TWO, plan, told, ([(MINE, MINE), (OTHER, OTHER)], [(1, 1)]),
                          ((good, ((right(), right(1)), 1)), 0, NO))

    def test_no_greater_than_the_limit(self):
        plan = Plan(("whole", "whole"), (1, 0), limit=2, mends=False, choice="newest")
        told = ((((TORN, cell(None, None)), 2), None), 0, NO)
        self.assert_round(TWO, plan, told, ([None, None], []), ((((TORN, cell(None, None)), 2), None), 0, (True, True)))
        told = two(AGED, cell((1, 1), (1, 1)), right(), right(1), tallies=(1, 1))
        self.assert_round(TWO, plan, told, ([(MINE, MINE), (OTHER, OTHER)], [(0, 0), (0, 1)]),
                          ((None, ((right(), right(1)), 1)), 0, NO))

    def test_several_at_once_from_the_last_one_on(self):
        told = one(AGED, cell(OLDER, OLDER), right())
        for order in itertools.permutations(range(3)):
            plan = Plan(("whole",), order, choice="newest", limit=1)
            self.assert_round(THREE, plan, told, ([(MINE, MINE)], [(0, 0), (1, 0)]), one(None, None, right()))

    def test_one_shelf_is_always_left(self):
        plan = Plan(("bare", "bare"), (0, 1), limit=1)
        shelves = two(right(), cell(None, None), AGED, right(1))
        for order, left in (((0, 1), 0), ((1, 0), 1)):
            told = plan.but("order", order)
            halves = [shelves[0][left][0][block][:2] for block in (0, 1)]
            want = [None, None]
            cells = (right(), cell(None, None)) if left == 0 else (AGED, right(1))
            want[left] = (cells, 0)
            self.assert_round(TWO, told, shelves, (halves, [(1 - left, 0), (1 - left, 1)]), (tuple(want), 0, NO))

    def test_all_reach_the_limit(self):
        plan = Plan(("whole", "whole"), (0, 1), limit=1, choice="first", mends=False)
        told = two(right(), cell(None, None), AGED, right(1))
        found = ([(MINE, MINE), (OTHER, OTHER)], [(1, 0), (0, 1)])
        self.assert_round(TWO, plan, told, found, ((((right(), cell(None, None)), 1), None), 0, NO))
        self.assert_round(TWO, plan.turned(), told, ([(OLD, OLD), (OTHER, OTHER)], [(0, 0), (0, 1)]),
                          ((None, ((AGED, right(1)), 0)), 0, NO))
        told = two(right(), cell(None, None), cell(None, OLD), right(1))
        self.assert_round(TWO, plan.turned(), told, found, ((None, ((cell(None, OLD), right(1)), 1)), 0, NO))

    def test_all_three_reach_the_limit(self):
        keep = Keep.full(3, 2)
        torn = [cell(None, None), cell(None, None)]
        rows = [(right(), torn[1]), (torn[0], right(1)), (torn[0], torn[1])]
        for order in itertools.permutations(range(3)):
            plan = Plan(("whole", "whole"), order, limit=1, mends=False)
            told = (tuple((row, 0) for row in rows), 0, NO)
            want = [None, None, None]
            want[order[0]] = (rows[order[0]], 1)
            self.assert_round(keep, plan, told, ([(MINE, MINE), (OTHER, OTHER)], [(1, 0), (2, 0), (0, 1), (2, 1)]),
                              (tuple(want), 0, NO))

    def test_last_shelf_is_never_put_out(self):
        plan = WHOLE.but("limit", 1)
        told = one(None, AGED, tallies=(0, 1))
        self.assert_round(ONE, plan, told, ([(OLD, OLD)], []), told)
        single = Plan(("whole",), (0,), limit=2)
        told = one(AGED, tallies=(2,))
        self.assert_round(Keep(1, 1), single, told, ([(OLD, OLD)], []), told)

    def test_what_was_only_on_a_shelf_put_out_is_left_no_more(self):
        plan = Plan(("whole",), (0, 1, 2), limit=1, mends=False, choice="newest")
        told = one(cell(OLD, OLD), cell(OLDER, OLDER), right())
        self.assert_round(THREE, plan.but("choice", "first"), told, ([(OLD, OLD)], [(1, 0), (2, 0)]),
                          one(AGED, None, None))
        told = one(cell(OLDER, OLDER), cell(OLD, OLD), cell((0, 3), (0, 3)))
        self.assert_round(THREE, plan.but("choice", "first"), told, ([(OLDER, OLDER)], [(1, 0), (2, 0)]),
                          one(AGED, None, None))

    def test_notes_after_a_shelf_was_put_out(self):
        plan = Plan(("noted",), (0, 1, 2), limit=1, mends=False)
        told = one(right(note=0), cell(OLD, OLD, 0), right(note=0))
        self.assert_round(THREE, plan, told, ([(MINE, MINE)], [(1, 0)]), one(right(note=0), None, right(note=0)))


class EndTest(RoundTest):
    def test_late_writes_are_lost(self):
        for plan in (WHOLE, SET):
            told = one(right(late=0), right(late=1), harms=1)
            self.assert_round(ONE, plan, told, ([(MINE, MINE)], []), one(right(), right()))

    def test_late_writes_are_lost_also_where_nothing_is_found(self):
        told = one(TORN[:2] + (None, 0), WORN[:2] + (None, 2), harms=2)
        self.assert_round(ONE, WHOLE, told, ([None], []), one(TORN, WORN, given_up=True))
        told = two(cell(MINE, OLD, None, 0), right(1, late=1), right(late=0), right(1))
        plan = Plan(("whole", "bare"), (0, 1), mends=False)
        self.assert_round(TWO, plan, told, ([(MINE, MINE), (OTHER, OTHER)], [(0, 0)]),
                          two(TORN, right(1), right(), right(1)))

    def test_ages_of_lost_late_writes_move_up(self):
        told = one(right(late=1), cell(OLDER, OLDER))
        self.assert_round(ONE, SET, told, ([(MINE, MINE)], [(1, 0)]), one(right(), AGED))
        told = one(right(note=1, late=2), cell((0, 3), (0, 3), 0))
        self.assert_round(ONE, NOTED.but("mends", False), told, ([(MINE, MINE)], [(1, 0)]),
                          one(right(note=1), cell(OLDER, OLDER, 0)))

    def test_harms_are_none_then(self):
        for harms in range(3):
            for plan in (WHOLE, SET):
                self.assertEqual(after(ONE, plan, one(right(), right(), harms=harms), ROUND), one(right(), right()))


if __name__ == "__main__":
    unittest.main()
