"""Promise 14: which shelves are put out together."""

import itertools

from answers import graph_by_the_words, outs_by_the_words, parts_by_the_words
from builders import KINDS, cell, one, right
from cases import Case, turned, without
from model import closed
from sizes import AT_MOST, BEYOND

from quietharm.deeds import all_states, trace
from quietharm.errors import BadKeep, BadPlan, BadState, TooLarge
from quietharm.judging import Safe
from quietharm.keeps import Keep, Plan
from quietharm.outing import Outs, all_outs, out_in, outs
from quietharm.states import first_state

TWO, NEWEST = Keep(2, 1, ("lost",)), Plan(("whole",), (0, 1), choice="newest")
STRICT = NEWEST.but("limit", 1)
LOST, LATTER, ROUND = ("write", 0, ("lost", "done")), ("write", 0, ("done", "lost")), ("round",)
DONE = ("write", 0, ("done", "done"))
START = first_state(TWO, STRICT)
STATES = all_states(TWO, STRICT)
TOLD = {(): [], (0,): [LOST, ROUND], (1,): [LATTER, ROUND]}
MANY = Keep(3, 1, ("torn",)), Plan(("whole",), (0, 1, 2), limit=2)


class OutInTest(Case):
    def test_by_hand(self):
        plan = Plan(("whole",), (2, 0, 1), limit=2)
        keep = Keep(3, 1)
        for shelves, want in (((right(), right(), right()), ()), ((None, right(), right()), (0,)),
                              ((right(), None, right()), (1,)), ((right(), None, None), (1, 2)),
                              ((None, None, cell(None, None)), (0, 1)), ((None, right(), None), (0, 2))):
            self.assertEqual(out_in(keep, plan, one(*shelves)), want)
        self.assertEqual(out_in(TWO, NEWEST, START), ())

    def test_errors_in_their_order(self):
        for keep in (None, STRICT):
            self.assert_refused(BadKeep, out_in, keep, None, None, part=None)
        for plan in (None, TWO, STRICT.but("order", (0,)), STRICT.but("sums", ("bare", "bare"))):
            self.assert_refused(BadPlan, out_in, TWO, plan, None, part=None)
        for told in (None, list(START), one(right()), one(None, None), START[:2]):
            self.assert_refused(BadState, out_in, TWO, STRICT, told)
        self.assert_refused(BadState, out_in, TWO, NEWEST, one(None, right()))


class OutsTest(Case):
    def assert_outs(self, keep, plan):
        """What is told, after seeing that it is as the words say."""
        found = self.assert_unchanged(outs, keep, plan)
        states = graph_by_the_words(keep, plan)
        self.assertEqual(list(found.histories), outs_by_the_words(keep, states))
        self.assertEqual(self.assert_unchanged(all_outs, keep, plan), list(found.histories))
        self.assertEqual(set(found.states), set(states))
        self.assertIs(found.shows(keep, plan), True)
        for shelves, history in found.histories.items():
            self.assertIsInstance(history, tuple)
            self.assertEqual(out_in(keep, plan, trace(keep, plan, history)[-1]), shelves)
        return found

    def test_without_limit(self):
        for keep in (TWO, Keep(3, 1, ("torn",)), Keep(1, 2, ("astray", "lost")), Keep(2, 1, ("worn",), most=2)):
            for kind in KINDS:
                plan = Plan((kind,) * keep.blocks, tuple(range(keep.shelves)), mends=kind != "named")
                self.assertEqual(list(self.assert_outs(keep, plan).histories), [()])

    def test_by_hand(self):
        self.assertEqual(all_outs(TWO, STRICT), [(), (0,), (1,)])
        self.assertEqual(all_outs(TWO, STRICT.but("choice", "first")), [(), (1,)])
        self.assertEqual(all_outs(Keep(2, 1), STRICT), [()])
        self.assertEqual(all_outs(Keep(1, 1, ("lost",)), Plan(("whole",), (0,), limit=1)), [()])
        self.assertEqual(all_outs(Keep.full(3, 2, most=0), Plan(("bare", "bare"), (0, 1, 2), limit=1)), [()])

    def test_sets_in_order(self):
        parts = parts_by_the_words((0, 1, 2))
        self.assertEqual(all_outs(*MANY), parts[:-1])
        self.assertEqual(all_outs(Keep(3, 1, ("late", "lost")), Plan(("named",), (1, 2, 0), limit=2)),
                         [(), (0,), (2,), (0, 2)])
        for order in itertools.permutations((0, 1, 2)):
            self.assert_outs(MANY[0], MANY[1].but("order", order))

    def test_keeps_and_plans(self):
        sizes = set()
        for keep in (TWO, Keep(3, 1, ("lost",)), Keep(2, 1, ("late", "torn")), Keep(2, 2, ("lost",))):
            for kind, choice, limit in zip(KINDS, ("first", "newest", "most", "first"), (1, 2, 1, None)):
                plan = Plan((kind,) * keep.blocks, tuple(range(keep.shelves))[::-1], choice=choice, limit=limit)
                sizes.add(len(self.assert_outs(keep, plan).histories))
        self.assertGreater(len(sizes), 3)
        for keep, plan in AT_MOST:
            self.assert_outs(keep, plan)

    def test_too_large(self):
        for keep, plan in BEYOND:
            for ask in (outs, all_outs):
                self.assert_refused(TooLarge, ask, keep, plan)

    def test_errors_in_their_order(self):
        large, plan = BEYOND[2]
        for ask in (outs, all_outs, Outs({}, []).shows, Outs(TOLD, STATES).shows):
            for keep in (None, plan):
                self.assert_refused(BadKeep, ask, keep, None, part=None)
            for odd in (None, large, STRICT, plan.but("order", (0, 1, 2)), plan.but("sums", ("bare",))):
                self.assert_refused(BadPlan, ask, large, odd, part=None)


class ShowsTest(Case):
    def assert_shown(self, want, histories=None, states=None, keep=TWO, plan=STRICT):
        told = Outs(TOLD if histories is None else histories, STATES if states is None else states)
        self.assertIs(told.shows(keep, plan), want)

    def test_as_told(self):
        self.assert_shown(True)
        self.assert_shown(True, turned(TOLD), STATES[::-1] * 2)
        self.assert_shown(True, {(): (LOST,), (0,): (DONE, LOST, ROUND, LATTER, ROUND), (1,): (LATTER, ROUND)})
        self.assert_shown(True, {(): []}, [START], keep=Keep(2, 1))

    def test_key_left_out_or_put_in(self):
        for shelves in TOLD:
            self.assert_shown(False, without(TOLD, shelves))
            for other in ((0, 1), (2,), (1, 0), (0, 0), (-1,)):
                self.assert_shown(False, {**without(TOLD, shelves), other: TOLD[shelves]})
        self.assert_shown(False, {})
        for shelves in ((0, 1), (2,), (1, 0), (0, 0), (-1,)):
            for history in TOLD.values():
                self.assert_shown(False, {**TOLD, shelves: history})

    def test_histories(self):
        for shelves in TOLD:
            for history in ([LOST, ROUND][:1], [LATTER, ROUND], [LOST, ROUND], [LOST, LOST], [("land", 0, 0)],
                            [("wear", 0, 0, 0), ROUND], [ROUND, LOST, LATTER, ROUND]):
                states = len(history) if history in ([LOST], [LATTER, ROUND], [LOST, ROUND]) else None
                want = states is not None and out_in(TWO, STRICT, trace(TWO, STRICT, history)[-1]) == shelves
                self.assert_shown(want, {**TOLD, shelves: history})
        self.assert_shown(False, {**TOLD, (0,): [LOST, ROUND, LOST]})
        self.assert_shown(True, {**TOLD, (0,): [LOST, ROUND, LATTER]})

    def test_states(self):
        for at in range(len(STATES)):
            self.assert_shown(False, states=STATES[:at] + STATES[at + 1:])
            self.assert_shown(True, states=STATES + STATES[at:at + 1])
        self.assert_shown(False, states=[])
        self.assert_shown(False, states=[START])
        for odd in (None, (), START[:2], one(None, None), (START[0], 2, START[2]), one(right(note=0), right(note=0))):
            self.assert_shown(False, states=STATES + [odd])
        worn = one(cell(None, None), right())
        self.assert_shown(False, states=STATES + [worn])
        self.assert_shown(True, states=closed(TWO, STRICT, STATES + [worn]))

    def test_states_in_which_other_shelves_were_put_out(self):
        first = STRICT.but("choice", "first")
        states = all_states(TWO, first)
        told = {(): [], (1,): [LOST, ROUND]}
        self.assert_shown(True, told, states, plan=first)
        more = closed(TWO, first, states + [one(None, right())])
        self.assertGreater(len(more), len(states))
        self.assert_shown(False, told, more, plan=first)
        self.assert_shown(False, {**told, (0,): [LATTER, ROUND]}, more, plan=first)

    def test_other_questions(self):
        self.assert_shown(False, keep=Keep(2, 1, ("lost", "torn")))
        self.assert_shown(False, keep=Keep(2, 1))
        self.assert_shown(False, plan=NEWEST)
        self.assert_shown(False, plan=STRICT.but("limit", 2))
        self.assert_shown(False, plan=STRICT.but("choice", "first"))

    def test_also_with_more_states_than_are_looked_at_elsewhere(self):
        keep, plan = BEYOND[1]
        states = list(graph_by_the_words(keep, plan, most=402))
        self.assert_shown(True, {(): [ROUND]}, states, keep, plan)
        self.assert_shown(False, {(): [ROUND]}, states[:-1], keep, plan)


class AttributesTest(Case):
    def test_copied(self):
        histories, states = {shelves: list(history) for shelves, history in TOLD.items()}, list(STATES)
        found = Outs(histories, states)
        histories[(0,)].clear()
        histories.clear()
        states.clear()
        self.assertEqual(found.histories, {shelves: tuple(history) for shelves, history in TOLD.items()})
        self.assertEqual(found.states, STATES)
        self.assertIs(found.shows(TWO, STRICT), True)

    def test_changed_attributes_are_asked(self):
        found = outs(TWO, STRICT)
        for name, wrong, good in (("states", [START], STATES * 2), ("histories", {}, turned(TOLD))):
            setattr(found, name, wrong)
            self.assertIs(found.shows(TWO, STRICT), False)
            setattr(found, name, good)
            self.assertIs(found.shows(TWO, STRICT), True)
        found.histories[(0,)] = [LATTER, ROUND]
        self.assertIs(found.shows(TWO, STRICT), False)
        found.histories[(0,)] = [LOST, ROUND]
        self.assertIs(found.shows(TWO, STRICT), True)
        found.states.remove(START)
        found.states.remove(START)
        self.assertIs(found.shows(TWO, STRICT), False)

    def test_equality(self):
        self.assert_equality(Outs(TOLD, STATES), Outs(turned(TOLD), list(STATES)), True)
        for other in ((TOLD, STATES[::-1]), (TOLD, []), ({}, STATES), ({**TOLD, (): [ROUND]}, STATES)):
            self.assert_equality(Outs(TOLD, STATES), Outs(*other), False)
        self.assert_equality(Outs({}, []), Safe([]), False)
        self.assert_equality(Outs({}, []), TWO, False)
