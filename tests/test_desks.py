"""Promise 12: desks, with deeds that are done, taken back and tried."""

import copy

from answers import words_by_the_words
from builders import EqualToAll, cell, one, right
from cases import Case
from model import deeds_by_the_words
from sizes import BEYOND

from quietharm.alike import tells
from quietharm.deeds import all_states, deeds, trace
from quietharm.desks import Desk
from quietharm.errors import BadBlock, BadDeed, BadHistory, BadKeep, BadPlan, NothingDone, NotNow
from quietharm.keeps import Keep, Plan
from quietharm.states import first_state

KEEP = Keep(2, 2, ("astray", "late", "lost", "torn", "worn"), most=2)
PLAN = Plan(("whole", "bare"), (0, 1), choice="newest", limit=2)
ONE, WHOLE = Keep(1, 1, ("worn",)), Plan(("whole",), (0,))
DONE, TORN, LATE = ("write", 0, ("done", "done")), ("write", 0, ("torn", "lost")), ("write", 1, ("done", "late"))
LAND, WEAR, ROUND = ("land", 1, 1), ("wear", 0, 1, 0), ("round",)
HISTORY = [DONE, LATE, LAND, WEAR, ROUND, TORN]
ODD_DEEDS = ((), (None,), ("round", 0), ("write",), ("write", 0), ("write", 2, ("done", "done")), ("write", 0, ("done",)),
             ("write", 0, ["done", "done"]), ("write", True, ("done", "done")), ("write", 0, ("done", "odd")),
             ("land", 0), ("land", 2, 0), ("land", 0, True), ("wear", 0, 0, 2), ("wear", 0, 0), ("Round",), (b"round",),
             (EqualToAll(),), (("round",),), (["round"],), (0,), ("writes", 0, ("done", "done")))


class Stop(Exception):
    """An error that is none of the package's own."""


def desk_after(history, keep=KEEP, plan=PLAN):
    desk = Desk(keep, plan)
    for deed in history:
        desk.do(*deed)
    return desk


class DeskCase(Case):
    def assert_desk(self, desk, history, keep=KEEP, plan=PLAN):
        """That everything on a desk is as after these deeds."""
        states = trace(keep, plan, history)
        self.assertEqual(desk.journal, list(history))
        self.assertEqual(desk.state, states[-1])
        self.assertEqual([desk.look(block) for block in range(keep.blocks)], words_by_the_words(plan, states[-1]))
        writes = [deed[2] for deed in deeds_by_the_words(keep, states[-1]) if deed[:2] == ("write", 0)]
        self.assertEqual(desk.writes(), writes)

    def assert_all_undone(self, desk, history, keep=KEEP, plan=PLAN):
        """That just these deeds can be taken back, one after the other."""
        history = list(history)
        while history:
            self.assertEqual(desk.undo(), history.pop())
            self.assert_desk(desk, history, keep, plan)
        for turn in range(2):
            self.assert_refused(NothingDone, desk.undo)
            self.assert_desk(desk, history, keep, plan)


class DoTest(DeskCase):
    def test_new_desk(self):
        desk = Desk(KEEP, PLAN)
        self.assert_desk(desk, [])
        self.assertEqual(desk.state, first_state(KEEP, PLAN))
        self.assert_all_undone(desk, [])

    def test_each_kind_of_deed(self):
        desk, states = Desk(KEEP, PLAN), trace(KEEP, PLAN, HISTORY)
        for at, deed in enumerate(HISTORY):
            self.assert_desk(desk, HISTORY[:at])
            self.assertEqual(desk.do(*deed), words_by_the_words(PLAN, states[at + 1]))
        self.assert_desk(desk, HISTORY)

    def test_words_by_hand(self):
        desk = Desk(ONE, WHOLE)
        self.assertEqual(desk.do("wear", 0, 0, 0), ["none"])
        self.assertEqual(desk.do("write", 0, ("done",)), ["right"])
        self.assertEqual(Desk(KEEP, PLAN).do("wear", 0, 1, 1), ["right", "wrong"])
        self.assertEqual(Desk(KEEP, PLAN).do("wear", 0, 1, 0), ["right", "right"])
        self.assertEqual(Desk(KEEP, PLAN).do("write", 0, ("astray", "lost")), ["wrong", "right"])
        self.assertEqual(Desk(KEEP, PLAN).do("write", 0, ("astray", "astray")), ["wrong", "wrong"])

    def test_all_deeds_of_all_states(self):
        keep, plan = Keep(2, 1, ("late", "torn")), Plan(("noted",), (1, 0), limit=1)
        for told in all_states(keep, plan)[::9]:
            desk = Desk(keep, plan)
            desk.rows[0] = (None, told)
            for deed in deeds(keep, plan, told):
                with desk.trial():
                    words = desk.do(*deed)
                    self.assertEqual(words, [tells(keep, plan, desk.state, 0)])
                self.assertEqual(desk.state, told)

    def test_no_deed(self):
        desk = desk_after(HISTORY)
        for odd in ODD_DEEDS:
            self.assert_refused(BadDeed, desk.do, *odd)
            self.assert_desk(desk, HISTORY)
        self.assert_refused(BadDeed, Desk(ONE, WHOLE).do, "write", 0, ("lost",))

    def test_deed_that_is_not_possible(self):
        desk = desk_after(HISTORY)
        for deed in (LAND, ("land", 0, 0), WEAR, TORN, ("wear", 1, 0, 1), ("write", 1, ("late", "done"))):
            self.assert_refused(NotNow, desk.do, *deed)
            self.assert_desk(desk, HISTORY)
        self.assert_all_undone(desk, HISTORY)

    def test_errors_in_their_order(self):
        for keep in (None, PLAN, 1):
            self.assert_refused(BadKeep, Desk, keep, None, part=None)
        for plan in (None, KEEP, WHOLE, PLAN.but("order", (0,)), PLAN.but("sums", ("bare",))):
            self.assert_refused(BadPlan, Desk, KEEP, plan, part=None)

    def test_looks(self):
        desk = desk_after(HISTORY)
        for block in (None, True, False, -1, 2, "0", (0,), [0], EqualToAll()):
            self.assert_refused(BadBlock, desk.look, block)
        self.assert_refused(BadBlock, Desk(ONE, WHOLE).look, 1)
        self.assert_desk(desk, HISTORY)

    def test_writes(self):
        desk = Desk(Keep(2, 1, ("late", "torn")), Plan(("bare",), (0, 1), limit=1))
        want = [("done", "done"), ("done", "late"), ("done", "torn"), ("late", "done"), ("torn", "done")]
        self.assertEqual(desk.writes(), want)
        desk.do("write", 0, ("done", "torn"))
        self.assertEqual(desk.writes(), want[:1])
        desk.do("round")
        self.assertIsNone(desk.state[0][1])
        self.assertEqual(desk.writes(), [("done", "done"), ("late", "done"), ("torn", "done")])
        self.assertEqual(Desk(KEEP, PLAN).writes()[:7], [("done", "done"), ("done", "astray"), ("done", "late"),
                                                         ("done", "lost"), ("done", "torn"), ("astray", "done"),
                                                         ("astray", "astray")])
        self.assertEqual(Desk(Keep.full(3, 1, most=0), Plan(("bare",), (0, 1, 2))).writes(), [("done",) * 3])

    def test_what_is_told_may_be_changed(self):
        desk = desk_after(HISTORY)
        for told in (desk.journal, desk.writes(), desk.tried([ROUND]), desk.do(*ROUND)):
            told.clear()
        desk.journal.append(ROUND)
        self.assert_desk(desk, HISTORY + [ROUND])
        self.assertIsNot(desk.journal, desk.journal)

    def test_desks_are_independent(self):
        first, second = desk_after([DONE]), desk_after([DONE])
        first.do(*TORN)
        self.assert_desk(second, [DONE])
        second.undo()
        self.assert_desk(first, [DONE, TORN])


class UndoTest(DeskCase):
    def test_undoing_all_and_once_more(self):
        self.assert_all_undone(desk_after(HISTORY), HISTORY)

    def test_going_on_after_undoing(self):
        desk = desk_after(HISTORY)
        for turn in range(3):
            desk.undo()
        desk.do(*ROUND)
        self.assert_desk(desk, HISTORY[:3] + [ROUND])
        self.assert_all_undone(desk, HISTORY[:3] + [ROUND])
        desk.do(*TORN)
        self.assert_desk(desk, [TORN])

    def test_long_journals(self):
        history, plan = [TORN, ROUND, LATE, LAND, ROUND] * 400, PLAN.but("limit", None)
        desk = desk_after(history, KEEP, plan)
        self.assert_desk(desk, history, KEEP, plan)
        for turn in range(1995):
            desk.undo()
        self.assert_desk(desk, history[:5], KEEP, plan)
        self.assert_all_undone(desk, history[:5], KEEP, plan)

    def test_keeps_that_are_too_large_elsewhere(self):
        for keep, plan in BEYOND:
            desk = desk_after([ROUND] * 3, keep, plan)
            self.assert_all_undone(desk, [ROUND] * 3, keep, plan)


class BranchTest(DeskCase):
    def test_branches_go_on_by_themselves(self):
        desk = desk_after(HISTORY[:3])
        branch = desk.branch()
        self.assertIsInstance(branch, Desk)
        self.assertIsNot(branch, desk)
        self.assert_desk(branch, HISTORY[:3])
        branch.do(*WEAR)
        desk.undo()
        self.assert_desk(branch, HISTORY[:4])
        self.assert_desk(desk, HISTORY[:2])
        third = branch.branch()
        self.assert_all_undone(branch, HISTORY[:4])
        self.assert_all_undone(third, HISTORY[:4])
        self.assert_all_undone(desk, HISTORY[:2])

    def test_branches_of_a_trial(self):
        desk = desk_after(HISTORY[:2])
        with desk.trial():
            desk.do(*LAND)
            branch = desk.branch()
            with branch.trial():
                self.assert_refused(NothingDone, branch.undo)
                branch.do(*WEAR)
            self.assert_desk(branch, HISTORY[:3])
            desk.undo()
            self.assert_refused(NothingDone, desk.undo)
            self.assert_desk(branch, HISTORY[:3])
            for turn in range(3):
                branch.undo()
            self.assert_desk(desk, HISTORY[:2])
            branch.do(*TORN)
            second = desk.branch()
        self.assert_all_undone(second, HISTORY[:2])
        self.assert_all_undone(branch, [TORN])
        self.assert_all_undone(desk, HISTORY[:2])


class TrialTest(DeskCase):
    def test_left_by_its_end(self):
        desk = desk_after(HISTORY[:2])
        with desk.trial() as inner:
            self.assertIs(inner, desk)
            self.assert_desk(desk, HISTORY[:2])
            desk.do(*LAND)
            inner.do(*ROUND)
            self.assert_desk(desk, HISTORY[:3] + [ROUND])
        self.assert_desk(desk, HISTORY[:2])
        self.assert_all_undone(desk, HISTORY[:2])

    def test_left_by_an_error(self):
        desk = desk_after(HISTORY[:2])
        error = Stop()
        with self.assertRaises(Stop) as caught:
            with desk.trial():
                desk.do(*LAND)
                raise error
        self.assertIs(caught.exception, error)
        self.assert_desk(desk, HISTORY[:2])
        with self.assertRaises(NotNow):
            with desk.trial():
                desk.do(*LAND)
                desk.do(*LAND)
        with self.assertRaises(NothingDone):
            with desk.trial():
                desk.undo()
        self.assert_all_undone(desk, HISTORY[:2])

    def test_left_by_a_return(self):
        desk = desk_after(HISTORY[:2])

        def leave():
            with desk.trial():
                desk.do(*LAND)
                return desk.journal
        self.assertEqual(leave(), HISTORY[:3])
        for turn in range(3):
            with desk.trial():
                desk.do(*ROUND)
                continue
        self.assert_all_undone(desk, HISTORY[:2])

    def test_undoing_down_to_its_beginning(self):
        desk = desk_after(HISTORY[:2])
        with desk.trial():
            self.assert_refused(NothingDone, desk.undo)
            desk.do(*LAND)
            desk.do(*ROUND)
            self.assertEqual((desk.undo(), desk.undo()), (ROUND, LAND))
            for turn in range(2):
                self.assert_refused(NothingDone, desk.undo)
                self.assert_desk(desk, HISTORY[:2])
            desk.do(*ROUND)
            self.assertEqual(desk.undo(), ROUND)
            desk.do(*LAND)
        self.assert_all_undone(desk, HISTORY[:2])

    def test_within_one_another(self):
        desk = desk_after(HISTORY[:1])
        with desk.trial():
            desk.do(*LATE)
            with desk.trial() as inner:
                self.assertIs(inner, desk)
                desk.do(*LAND)
                with self.assertRaises(Stop):
                    with desk.trial():
                        self.assert_refused(NothingDone, desk.undo)
                        desk.do(*ROUND)
                        raise Stop()
                self.assert_desk(desk, HISTORY[:3])
                self.assertEqual(desk.undo(), LAND)
                self.assert_refused(NothingDone, desk.undo)
                desk.do(*ROUND)
            self.assert_desk(desk, HISTORY[:2])
            self.assertEqual(desk.undo(), LATE)
            self.assert_refused(NothingDone, desk.undo)
            desk.do(*TORN)
        self.assert_all_undone(desk, HISTORY[:1])

    def test_one_error_through_several(self):
        desk = desk_after(HISTORY[:1])
        with self.assertRaises(Stop):
            with desk.trial():
                desk.do(*LATE)
                with desk.trial():
                    desk.do(*LAND)
                    raise Stop()
        self.assert_all_undone(desk, HISTORY[:1])

    def test_one_trial_entered_again(self):
        desk = desk_after(HISTORY[:1])
        trial = desk.trial()
        desk.do(*LATE)
        with trial:
            desk.do(*LAND)
            with trial as inner:
                self.assertIs(inner, desk)
                desk.do(*ROUND)
                self.assert_desk(desk, HISTORY[:3] + [ROUND])
            self.assert_desk(desk, HISTORY[:3])
        self.assert_desk(desk, HISTORY[:2])
        with trial:
            self.assert_refused(NothingDone, desk.undo)
        self.assert_all_undone(desk, HISTORY[:2])

    def test_journal_told_in_a_trial_stays(self):
        desk = desk_after(HISTORY[:2])
        with desk.trial():
            desk.do(*LAND)
            told = desk.journal
        self.assertEqual(told, HISTORY[:3])


class AttemptTest(DeskCase):
    def test_what_the_function_returns(self):
        desk = desk_after(HISTORY[:2])
        told = []
        for thing in (None, 3, told):
            self.assertIs(desk.attempt(lambda inner: thing), thing)
        self.assertIs(desk.attempt(lambda inner: inner), desk)
        self.assertEqual(desk.attempt(lambda inner: inner.do(*LAND)), desk.tried([LAND])[0])
        self.assertEqual(desk.attempt(lambda inner: [inner.look(block) for block in (0, 1)]),
                         [desk.look(block) for block in (0, 1)])
        self.assert_all_undone(desk, HISTORY[:2])

    def test_functions_that_do_undo_raise_and_try(self):
        desk = desk_after(HISTORY[:2])

        def work(inner):
            inner.do(*LAND)
            inner.undo()
            inner.do(*WEAR)
            tried = inner.tried([ROUND, TORN])
            self.assert_desk(inner, HISTORY[:2] + [WEAR])
            return tried, inner.attempt(lambda again: (again.do(*ROUND), again.journal)), inner.journal
        told = desk.attempt(work)
        states = trace(KEEP, PLAN, HISTORY[:2] + [WEAR, ROUND, TORN])
        words = [words_by_the_words(PLAN, state) for state in states]
        self.assertEqual(told, (words[4:], (words[4], HISTORY[:2] + [WEAR, ROUND]), HISTORY[:2] + [WEAR]))
        self.assert_desk(desk, HISTORY[:2])

        def fail(inner):
            inner.do(*LAND)
            inner.attempt(fail)
        self.assert_refused(NotNow, desk.attempt, fail)
        self.assert_refused(NothingDone, desk.attempt, lambda inner: inner.undo())
        self.assert_refused(BadHistory, desk.attempt, lambda inner: inner.tried([LAND, LAND]), index=1)
        self.assert_all_undone(desk, HISTORY[:2])


class TriedTest(DeskCase):
    def test_lists_and_tuples(self):
        desk = desk_after(HISTORY[:2])
        words = [words_by_the_words(PLAN, state) for state in trace(KEEP, PLAN, HISTORY)]
        for told in (HISTORY[2:], tuple(HISTORY[2:])):
            self.assertEqual(self.assert_unchanged(desk.tried, told), words[3:])
        self.assertEqual((desk.tried([]), desk.tried(())), ([], []))
        self.assert_all_undone(desk, HISTORY[:2])

    def test_first_wrong_item_at_each_place(self):
        desk = desk_after(HISTORY[:2])
        for at in range(len(HISTORY) - 2):
            for odd in (None, LAND[:1], WEAR[:3], list(ROUND), "round", ("land", 0, 0), ("write", 0, ("lost",) * 3), {}):
                history = HISTORY[2:2 + at] + [odd]
                for rest in ([], [ROUND], [None]):
                    self.assert_refused(BadHistory, desk.tried, history + rest, index=at)
                    self.assert_refused(BadHistory, desk.tried, tuple(history + rest), index=at)
        self.assert_refused(BadHistory, desk.tried, [LAND, WEAR, WEAR, ROUND], index=2)
        self.assert_refused(BadHistory, desk.tried, [TORN], index=0)
        self.assert_all_undone(desk, HISTORY[:2])

    def test_what_is_neither(self):
        desk = desk_after(HISTORY[:2])
        for odd in (None, True, 0, "", "round", {}, {ROUND: 0}, object(), iter([ROUND]), range(0), EqualToAll()):
            self.assert_refused(BadHistory, desk.tried, odd, index=None)
        self.assert_desk(desk, HISTORY[:2])

    def test_in_trials(self):
        desk = desk_after(HISTORY[:2])
        with desk.trial():
            desk.do(*LAND)
            desk.tried([ROUND])
            self.assertEqual(desk.undo(), LAND)
            desk.tried([LAND])
            self.assert_refused(NothingDone, desk.undo)
        self.assert_all_undone(desk, HISTORY[:2])

    def test_shelves_put_out(self):
        keep, plan = Keep(2, 1, ("torn", "worn")), Plan(("bare",), (0, 1), limit=1)
        desk = desk_after([("wear", 1, 0, 0), ROUND], keep, plan)
        self.assertEqual(desk.state, one(right(), None))
        self.assertEqual(desk.tried([("wear", 0, 0, 1)]), [["wrong"]])
        self.assert_refused(BadHistory, desk.tried, [("wear", 1, 0, 1)], index=0)
        self.assert_refused(BadHistory, desk.tried, [ROUND, ("write", 0, ("done", "torn"))], index=1)
        self.assertEqual(copy.deepcopy(desk.journal), [("wear", 1, 0, 0), ROUND])
        self.assertEqual(desk.do("wear", 0, 0, 0), ["wrong"])
        self.assertEqual(desk.state, one(cell(None, (0, 0)), None, harms=1))
