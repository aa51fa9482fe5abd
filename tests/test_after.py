"""Promise 5: the state behind each deed, but for rounds."""

import itertools
import unittest

from builders import KINDS, cell, copies, one, right, state

from quietharm.deeds import after
from quietharm.keeps import Keep, Plan
from quietharm.states import first_state, is_state

ONE = Keep(2, 1, ("late", "lost", "torn", "worn"), most=2)
WHOLE = Plan(("whole",), (0, 1))
NOTED = Plan(("noted",), (0, 1))
FIRST = one(right(), right())
TWO = Keep.full(2, 2, most=2)
BOTH = Plan(("whole", "bare"), (0, 1))
NOTES = Plan(("noted", "noted"), (0, 1))
NO = (False, False)
MINE, OLD, OLDER = (0, 0), (0, 1), (0, 2)
AGED = cell(OLD, OLD)


def write(*words, block=0):
    return ("write", block, words)


def two(*cells, harms=0, given_up=NO):
    """A state of two shelves: the cells of both blocks on the first one, then on the second one."""
    return (((cells[:2], 0), (cells[2:], 0)), harms, given_up)


class AfterTest(unittest.TestCase):
    def assert_after(self, keep, plan, told, deed, want):
        self.assertEqual(after(keep, plan, told, deed), want)
        self.assertTrue(is_state(keep, plan, want))


class WriteTest(AfterTest):
    def test_each_word_on_each_shelf(self):
        cells = {"done": right(), "late": cell(OLD, OLD, None, 0), "lost": AGED, "torn": cell(MINE, OLD)}
        for words in itertools.product(cells, repeat=2):
            if words in itertools.product(("lost", "late"), repeat=2):
                continue
            harms = sum(word != "done" for word in words)
            self.assert_after(ONE, WHOLE, FIRST, write(*words), one(*[cells[word] for word in words], harms=harms))

    def test_nothing_is_left_of_the_last_write(self):
        self.assert_after(ONE, WHOLE, FIRST, write("lost", "lost"), one(AGED, AGED, harms=2))
        late = cell(OLD, OLD, None, 0)
        self.assert_after(ONE, WHOLE, FIRST, write("late", "lost"), one(late, AGED, harms=2))
        self.assert_after(ONE, WHOLE, FIRST, write("late", "late"), one(late, late, harms=2))
        self.assert_after(ONE, WHOLE, one(AGED, AGED), write("lost", "lost"), one(AGED, AGED, harms=2))
        self.assert_after(ONE, WHOLE, one(AGED, cell(MINE, None)), write("lost", "lost"),
                          one(cell(OLDER, OLDER), cell(OLD, None), harms=2))

    def test_done_leaves_what_is_late(self):
        told = one(right(late=0), cell(OLD, OLD, None, 1))
        self.assert_after(ONE, WHOLE, told, write("done", "done"), one(right(late=1), right(late=2)))

    def test_done_on_all_shelves_leaves_nothing_older(self):
        told = one(cell(OLDER, None), cell((0, 3), OLD), harms=1)
        self.assert_after(ONE, WHOLE, told, write("done", "done"), one(right(), right(), harms=1))

    def test_torn_upon_torn(self):
        told = one(cell(MINE, OLD), right())
        self.assert_after(ONE, WHOLE, told, write("torn", "done"), one(cell(MINE, OLD), right(), harms=1))
        self.assert_after(ONE, WHOLE, told, write("torn", "lost"), one(cell(MINE, OLDER), AGED, harms=2))
        self.assert_after(ONE, WHOLE, one(cell(None, None), right()), write("torn", "torn"),
                          one(cell(MINE, None), cell(MINE, OLD), harms=2))

    def test_late_in_the_place_of_an_older_one(self):
        told = one(right(late=0), right(late=0))
        self.assert_after(ONE, WHOLE, told, write("late", "done"),
                          one(cell(OLD, OLD, None, 0), right(late=1), harms=1))
        told = one(cell(OLDER, OLDER, None, 1), right())
        self.assert_after(ONE, WHOLE, told, write("late", "done"), one(cell(OLD, OLD, None, 0), right(), harms=1))

    def test_given_up_no_more(self):
        for words in (("done", "done"), ("lost", "lost"), ("late", "torn")):
            told = one(right(), right(), given_up=True)
            self.assertEqual(after(ONE, WHOLE, told, write(*words))[2], (False,))
        told = two(right(), right(1), right(), right(1), given_up=(True, True))
        self.assertEqual(after(TWO, BOTH, told, write("done", "done"))[2], (False, True))
        self.assertEqual(after(TWO, BOTH, told, write("lost", "astray", block=1))[2], (True, False))

    def test_notes(self):
        old = one(right(note=0), right(note=0))
        cells = {"done": right(note=0), "late": cell(OLD, OLD, 1, 0), "lost": cell(OLD, OLD, 1),
                 "torn": cell(MINE, OLD, 1)}
        for word, other in itertools.product(cells, repeat=2):
            harms = (word != "done") + (other != "done")
            self.assert_after(ONE, NOTED, old, write(word, other), one(cells[word], cells[other], harms=harms))

    def test_notes_stay_none_with_other_kinds(self):
        for kind in KINDS[:3]:
            plan = WHOLE.but("sums", (kind,))
            for word in ("done", "late", "lost", "torn"):
                later = after(ONE, plan, FIRST, write(word, "done"))
                self.assertEqual([shelf[0][0][2] for shelf in later[0]], [None, None])

    def test_astray(self):
        start = first_state(TWO, BOTH)
        mine, strange = right(1), cell((0, 0), (0, 0))
        self.assert_after(TWO, BOTH, start, write("astray", "done"), two(AGED, strange, right(), mine, harms=1))
        self.assert_after(TWO, BOTH, start, write("done", "astray"), two(right(), mine, AGED, strange, harms=1))
        self.assert_after(TWO, BOTH, start, write("astray", "astray"), two(AGED, strange, AGED, strange, harms=2))
        old, other = cell((1, 1), (1, 1)), cell((1, 0), (1, 0))
        self.assert_after(TWO, BOTH, start, write("lost", "astray", block=1),
                          two(right(), old, other, old, harms=2))

    def test_astray_leaves_notes_and_late_writes(self):
        told = two(right(0, 0, 0), right(1, 0, 0), right(0, 0), right(1, 0))
        strange = cell((0, 0), (0, 0), 0, 0)
        self.assert_after(TWO, NOTES, told, write("astray", "done"),
                          two(cell(OLD, OLD, 1, 1), strange, right(0, 0), right(1, 0), harms=1))

    def test_write_over_a_strange_copy(self):
        told = two(right(), cell(MINE, MINE), right(), cell(OLD, OLD))
        self.assert_after(TWO, BOTH, told, write("done", "done", block=1), two(right(), right(1), right(), right(1)))
        self.assert_after(TWO, BOTH, told, write("done", "lost"),
                          two(right(), cell(OLD, OLD), AGED, cell(OLDER, OLDER), harms=1))

    def test_ages_of_the_other_block_stay(self):
        told = two(right(), cell((1, 1), (1, 2)), right(), cell((0, 0), (1, 0), None, 1))
        self.assert_after(TWO, BOTH, told, write("done", "done"),
                          two(right(), cell((1, 1), (1, 2)), right(), cell(OLD, (1, 0), None, 1)))

    def test_ages_move_up_where_nothing_is_left(self):
        plan = Plan(("noted",), (0, 1, 2))
        keep = Keep(3, 1, ONE.harms, most=2)
        deed = write("lost", "torn", "done")
        want = one(cell(OLD, OLD, 1, 2), cell(MINE, None, 3), right(note=0), harms=2)
        for note in (0, 1, 5):
            told = one(cell(OLD, OLD, 1, 2), cell((0, 3), None, 4), cell(None, (0, 5), note))
            self.assert_after(keep, plan, told, deed, want)
        told = one(cell(OLD, MINE, 1, 2), cell((0, 3), None, 4), cell(None, (0, 5), 1))
        self.assert_after(keep, plan, told, deed,
                          one(cell(OLDER, OLD, 2, 3), cell(MINE, None, 4), right(note=0), harms=2))

    def test_shelves_put_out(self):
        plan = Plan(("whole",), (0, 1, 2), limit=2)
        keep = Keep(3, 1, ONE.harms, most=2)
        told = one(None, right(), right(late=0), tallies=(0, 1, 0))
        self.assert_after(keep, plan, told, write("done", "torn", "done"),
                          one(None, cell(MINE, OLD), right(late=1), tallies=(0, 1, 0), harms=1))
        self.assert_after(keep, plan, one(None, None, right(), tallies=(0, 0, 2)), write("done", "done", "lost"),
                          one(None, None, AGED, tallies=(0, 0, 2), harms=1))

    def test_harms_are_counted_up(self):
        for words, harms in ((("done", "done"), 1), (("done", "lost"), 2), (("torn", "done"), 2)):
            self.assertEqual(after(ONE, WHOLE, one(right(), right(), harms=1), write(*words))[1], harms)


class LandTest(AfterTest):
    def test_of_the_last_write(self):
        told = one(cell(OLD, OLD, None, 0), cell(OLD, None), harms=1)
        self.assert_after(ONE, WHOLE, told, ("land", 0, 0), one(right(), cell(OLD, None), harms=1))

    def test_after_newer_writes(self):
        self.assert_after(ONE, WHOLE, one(right(late=1), right()), ("land", 0, 0), one(AGED, right()))
        told = one(cell(MINE, OLD, None, 2), right(late=1))
        self.assert_after(ONE, WHOLE, told, ("land", 0, 0), one(cell(OLDER, OLDER), right(late=1)))
        self.assert_after(ONE, WHOLE, told, ("land", 1, 0), one(cell(MINE, OLD, None, 2), AGED))

    def test_what_it_covers_is_left_no_more(self):
        told = one(cell(OLD, OLD, None, 2), right())
        self.assert_after(ONE, WHOLE, told, ("land", 0, 0), one(AGED, right()))
        told = one(cell(MINE, MINE, None, 1), cell(None, OLD))
        self.assert_after(ONE, WHOLE, told, ("land", 0, 0), one(AGED, cell(None, OLD)))
        told = one(cell(None, None, None, 1), cell(None, None))
        self.assert_after(ONE, WHOLE, told, ("land", 0, 0), one(AGED, cell(None, None)))

    def test_notes(self):
        told = one(right(note=0, late=1), cell(OLD, OLD, 1, 2))
        self.assert_after(ONE, NOTED, told, ("land", 0, 0), one(cell(OLD, OLD, 1), cell(OLD, OLD, 1, 2)))
        self.assert_after(ONE, NOTED, told, ("land", 1, 0), one(right(note=0, late=1), cell(OLDER, OLDER, 2)))
        self.assert_after(ONE, NOTED, one(right(note=0), cell(OLD, OLD, 1, 2)), ("land", 1, 0),
                          one(right(note=0), cell(OLD, OLD, 1)))

    def test_given_up_and_tallies_stay(self):
        plan = WHOLE.but("limit", 2)
        told = one(right(late=1), right(), tallies=(1, 0), harms=2, given_up=True)
        self.assert_after(ONE, plan, told, ("land", 0, 0), one(AGED, right(), tallies=(1, 0), harms=2, given_up=True))

    def test_copy_of_the_other_block_stays(self):
        told = two(right(), cell(MINE, (1, 0), None, 0), cell((1, 0), MINE), right(1, late=0))
        self.assert_after(TWO, BOTH, told, ("land", 0, 1), two(right(), right(1), cell((1, 0), MINE), right(1, late=0)))


class WearTest(AfterTest):
    def test_each_half(self):
        worn = {0: cell(None, MINE), 1: cell(MINE, None)}
        for half in (0, 1):
            self.assert_after(ONE, WHOLE, FIRST, ("wear", 0, 0, half), one(worn[half], right(), harms=1))
            self.assert_after(ONE, WHOLE, FIRST, ("wear", 1, 0, half), one(right(), worn[half], harms=1))
        self.assert_after(ONE, WHOLE, one(cell(None, OLD), right(), harms=1), ("wear", 0, 0, 1),
                          one(cell(None, None), right(), harms=2))

    def test_ages_move_up(self):
        told = one(cell(OLD, OLDER), right())
        self.assert_after(ONE, WHOLE, told, ("wear", 0, 0, 0), one(cell(None, OLD), right(), harms=1))
        told = one(cell(MINE, OLD), cell(OLDER, None))
        self.assert_after(ONE, WHOLE, told, ("wear", 0, 0, 0), one(cell(None, OLD), cell(OLDER, None), harms=1))

    def test_note_and_late_write_stay(self):
        told = one(cell(OLD, OLDER, 3, 4), right(note=0), given_up=True)
        self.assert_after(ONE, NOTED, told, ("wear", 0, 0, 1),
                          one(cell(OLD, None, 2, 3), right(note=0), harms=1, given_up=True))

    def test_of_the_second_block(self):
        shelf = copies((MINE, MINE), ((1, 0), (1, 0)))
        want = state(copies((MINE, MINE), ((1, 0), None)), shelf, harms=1, given_up=NO)
        self.assert_after(TWO, BOTH, state(shelf, shelf, given_up=NO), ("wear", 0, 1, 1), want)


if __name__ == "__main__":
    unittest.main()
