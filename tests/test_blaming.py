"""Promise 15: shelves that are wronged, though no deed harmed them."""

import itertools

from answers import fewest_by_the_words, graph_by_the_words, harms_shelf, wrong_by_the_words
from builders import CHOICES, KINDS, EqualToAll, cell, copies, one, right, state
from cases import Case
from sizes import AT_MOST, BEYOND

from quietharm.blaming import Fair, Wronged, blame, fewest_harms, is_wronged, wronged_shelves
from quietharm.deeds import all_states, harms_in, trace
from quietharm.errors import BadKeep, BadKind, BadPlan, BadShelf, TooLarge
from quietharm.judging import Harmed, Safe
from quietharm.keeps import Keep, Plan
from quietharm.states import first_state

WAYS = ("out", "spoilt")
TWO = Keep(2, 1, ("lost",))
STRICT = Plan(("whole",), (0, 1), choice="newest", limit=1)
FIRST = STRICT.but("choice", "first")
MENDS = FIRST.but("limit", None)
LOST, LATTER, ROUND = ("write", 0, ("lost", "done")), ("write", 0, ("done", "lost")), ("round",)
DONE = ("write", 0, ("done", "done"))
START = first_state(TWO, STRICT)
MILD = Keep(3, 1, ("lost",)), Plan(("bare",), (0, 2, 1), choice="most", limit=2)
ODD_SHELVES = (None, True, False, -1, 3, "0", "out", (0,), [0], {}, object(), EqualToAll())
ODD_KINDS = (None, True, 0, 1, "", "Out", "spoilt ", "wronged", b"out", ("out",), ["out"], {}, object(), EqualToAll(), WAYS)


class BlameTest(Case):
    def assert_blamed(self, keep, plan):
        """The fewest harms by shelves, for both ways, after seeing that all that is told is as the words say."""
        graph = graph_by_the_words(keep, plan)
        wants = []
        for kind in WAYS:
            want = [fewest_by_the_words(graph, shelf, kind) for shelf in range(keep.shelves)]
            self.assertEqual([fewest_harms(keep, plan, shelf, kind) for shelf in range(keep.shelves)], want)
            self.assertEqual(self.assert_unchanged(wronged_shelves, keep, plan, kind),
                             [shelf for shelf in range(keep.shelves) if want[shelf] is not None])
            for shelf in range(keep.shelves):
                self.assertIs(is_wronged(keep, plan, shelf, kind), want[shelf] is not None)
                self.assert_answer(keep, plan, shelf, kind, want[shelf])
            wants.append(want)
        return wants

    def assert_answer(self, keep, plan, shelf, kind, want):
        found = self.assert_unchanged(blame, keep, plan, shelf, kind)
        self.assertIs(found.shows(keep, plan, shelf, kind), True)
        self.assertIsInstance(found, Fair if want is None else Wronged)
        if want is None:
            self.assertIsInstance(found.states, list)
            self.assertFalse(any(wrong_by_the_words(told, shelf, kind) for told in found.states))
        else:
            self.assertIsInstance(found.history, tuple)
            self.assertTrue(wrong_by_the_words(trace(keep, plan, found.history)[-1], shelf, kind))
            self.assertFalse(any(harms_shelf(deed, shelf) for deed in found.history))
            self.assertGreaterEqual(harms_in(keep, plan, found.history), want)

    def test_by_hand(self):
        self.assertEqual(self.assert_blamed(TWO, STRICT), [[None, None], [None, None]])
        self.assertEqual(self.assert_blamed(TWO, FIRST), [[None, 1], [None, None]])
        self.assertEqual(self.assert_blamed(TWO, MENDS), [[None, None], [None, 1]])
        self.assertEqual(self.assert_blamed(TWO, MENDS.but("mends", False)), [[None, None], [None, None]])
        self.assertEqual(self.assert_blamed(*MILD), [[None, 4, 4], [None, 3, 3]])

    def test_without_harms(self):
        for keep in (Keep(3, 2, (), most=2), Keep.full(3, 2, most=0), Keep(1, 1)):
            plan = Plan(("bare",) * keep.blocks, tuple(range(keep.shelves)), limit=1)
            self.assertEqual(self.assert_blamed(keep, plan), [[None] * keep.shelves] * 2)

    def test_one_shelf_is_never_wronged_by_another(self):
        for harms in (("lost",), ("late", "torn"), ("worn",)):
            for kind, limit in itertools.product(KINDS, (None, 1)):
                self.assertEqual(self.assert_blamed(Keep(1, 1, harms), Plan((kind,), (0,), limit=limit)), [[None], [None]])

    def test_wronged_in_one_way_alone(self):
        both = self.assert_blamed(Keep(3, 1, ("late", "lost")), Plan(("named",), (1, 2, 0), limit=2))
        self.assertEqual((both[0][0], both[1][0]), (2, 1))
        out = self.assert_blamed(Keep(3, 1, ("lost", "worn")), Plan(("bare",), (1, 2, 0), choice="most", mends=False, limit=1))
        self.assertEqual((out[0][0], out[1][0]), (2, None))

    def test_keeps_and_plans(self):
        found = set()
        for keep in (Keep(2, 1, ("late", "torn")), Keep(2, 1, ("lost",), most=2), Keep(3, 1, ("lost",)), Keep(2, 2, ("lost",)),
                     Keep(2, 1, ("worn",))):
            for kind, choice, limit, mends in zip(KINDS, CHOICES + ("first",), (1, None, 2, None), (True, True, False, True)):
                plan = Plan((kind,) * keep.blocks, tuple(range(keep.shelves))[::-1], choice=choice, limit=limit, mends=mends)
                rows = self.assert_blamed(keep, plan)
                found.update((rows[0][shelf], rows[1][shelf]) for shelf in range(keep.shelves))
        self.assertGreater(len(found), 2)
        self.assert_blamed(*AT_MOST[0])

    def test_writes_that_go_astray_harm_the_shelf(self):
        keep, plan = Keep(1, 2, ("astray",)), Plan(("bare", "bare"), (0,))
        self.assertEqual(self.assert_blamed(keep, plan), [[None], [None]])
        keep = Keep(2, 2, ("astray",))
        rows = self.assert_blamed(keep, Plan(("whole", "whole"), (1, 0), limit=2))
        self.assertEqual(rows, [[1, None], [1, None]])

    def test_one_of_two_blocks_is_enough(self):
        keep, plan = Keep(2, 2, ("lost",)), Plan(("whole", "whole"), (0, 1))
        rows = self.assert_blamed(keep, plan)
        self.assertEqual(rows, [[None, None], [None, 1]])
        for block in (0, 1):
            history = [("write", block, ("lost", "done")), ROUND]
            self.assertIs(Wronged(history).shows(keep, plan, 1, "spoilt"), True)

    def test_too_large(self):
        for (keep, plan), kind in zip(BEYOND, WAYS * 3):
            for ask in (blame, is_wronged, fewest_harms):
                self.assert_refused(TooLarge, ask, keep, plan, keep.shelves - 1, kind)
            self.assert_refused(TooLarge, wronged_shelves, keep, plan, kind)

    def test_too_large_also_if_few_states_come_about_without_harm_to_the_shelf(self):
        keep = Keep(1, 2, ("late", "lost", "torn", "worn"), most=2)
        plan = Plan(("whole", "whole"), (0,))
        self.assertIs(Fair([first_state(keep, plan)]).shows(keep, plan, 0, "spoilt"), True)
        self.assert_refused(TooLarge, blame, keep, plan, 0, "spoilt")

    def test_errors_in_their_order(self):
        large, plan = BEYOND[4]
        asked = [blame, is_wronged, fewest_harms, Wronged([]).shows, Fair([]).shows, Fair([START]).shows]
        for ask in asked:
            for keep in (None, plan):
                self.assert_refused(BadKeep, ask, keep, None, None, None, part=None)
            for odd in (None, large, FIRST, plan.but("order", (0, 1)), plan.but("sums", ("bare",))):
                self.assert_refused(BadPlan, ask, large, odd, None, None, part=None)
            for shelf in ODD_SHELVES:
                self.assert_refused(BadShelf, ask, large, plan, shelf, None)
            for kind in ODD_KINDS:
                self.assert_refused(BadKind, ask, large, plan, 2, kind)
        self.assert_refused(BadShelf, blame, TWO, FIRST, 2, "out")
        for keep in (None, plan):
            self.assert_refused(BadKeep, wronged_shelves, keep, None, None, part=None)
        self.assert_refused(BadPlan, wronged_shelves, large, FIRST, None, part=None)
        for kind in ODD_KINDS:
            self.assert_refused(BadKind, wronged_shelves, large, plan, kind)


class WrongedTest(Case):
    def assert_shown(self, want, history, shelf=1, kind="out", keep=TWO, plan=FIRST):
        for told in (list(history), tuple(history)):
            self.assertIs(Wronged(told).shows(keep, plan, shelf, kind), want)

    def test_histories(self):
        self.assert_shown(True, [LOST, ROUND])
        self.assert_shown(True, [ROUND, DONE, LOST, ROUND, ROUND, DONE])
        for history in ([], [LOST], [ROUND], [LOST, DONE, ROUND], [LOST, LOST, ROUND], [LATTER, ROUND], [("land", 1, 0)],
                        [("wear", 0, 0, 0), ROUND], [LOST, ROUND, ("write", 0, ("done", "lost"))]):
            self.assert_shown(False, history)
        self.assert_shown(False, [LOST, ROUND], shelf=0)
        self.assert_shown(False, [LOST, ROUND], kind="spoilt")
        self.assert_shown(False, [LOST, ROUND], plan=STRICT)
        self.assert_shown(False, [LOST, ROUND], plan=MENDS)
        self.assert_shown(True, [LOST, ROUND], plan=MENDS, kind="spoilt")
        self.assert_shown(False, [LOST], plan=MENDS, kind="spoilt", shelf=0)
        self.assert_shown(False, [LOST, ROUND, DONE], plan=MENDS, kind="spoilt")

    def test_deed_that_harms_the_shelf_at_each_place(self):
        keep = Keep(2, 1, ("late", "lost", "torn", "worn"))
        history = [DONE, ROUND, LOST, ROUND]
        self.assert_shown(True, history, keep=keep)
        for word in ("late", "lost", "torn"):
            self.assert_shown(False, [("write", 0, ("done", word)), DONE, ROUND] + history, keep=keep)
            self.assert_shown(True, [("write", 0, (word, "done")), DONE, ROUND] + history, keep=keep)
            self.assert_shown(False, history + [("write", 0, ("done", word))], keep=keep)
        for half in (0, 1):
            self.assert_shown(False, [("wear", 1, 0, half), DONE, ROUND] + history, keep=keep)
            self.assert_shown(True, [("wear", 0, 0, half), DONE, ROUND] + history, keep=keep)

    def test_landing_does_not_harm(self):
        keep, plan = Keep(2, 1, ("late",), most=2), Plan(("bare",), (0, 1), limit=1)
        late = ("write", 0, ("late", "done"))
        history = [late, DONE, ("land", 0, 0), ROUND]
        self.assert_shown(True, history, keep=keep, plan=plan)
        self.assert_shown(False, [("write", 0, ("late", "late")), DONE, ("land", 0, 0), ROUND], keep=keep, plan=plan)
        self.assert_shown(False, [("write", 0, ("done", "late")), DONE, ("land", 1, 0)], keep=keep, plan=plan, kind="spoilt")

    def test_writes_of_the_other_block(self):
        keep, plan = Keep(2, 2, ("astray", "lost")), Plan(("bare", "bare"), (0, 1))
        history = [("write", 1, ("astray", "done")), ROUND]
        self.assert_shown(True, history, keep=keep, plan=plan, kind="spoilt")
        self.assert_shown(False, history, keep=keep, plan=plan, kind="spoilt", shelf=0)
        self.assert_shown(False, [("write", 1, ("done", "astray"))], keep=keep, plan=plan, kind="spoilt")

    def test_also_with_more_states_than_are_looked_at_elsewhere(self):
        keep, plan = Keep.full(3, 2), Plan(("bare", "bare"), (0, 1, 2), limit=1)
        history = [("write", 0, ("lost", "done", "done")), ROUND]
        for shelf in (0, 1, 2):
            self.assert_shown(shelf > 0, history, shelf, keep=keep, plan=plan)
        with self.assertRaises(TooLarge):
            blame(keep, plan, 1, "out")


class FairTest(Case):
    def assert_shown(self, want, states, shelf=0, kind="out", keep=TWO, plan=STRICT):
        self.assertIs(Fair(states).shows(keep, plan, shelf, kind), want)

    def test_states(self):
        states = blame(TWO, STRICT, 0, "out").states
        self.assertGreater(len(states), 3)
        self.assertLess(len(states), len(all_states(TWO, STRICT)))
        for told in (states, states[::-1], states * 2):
            self.assert_shown(True, told)
            self.assert_shown(True, told, kind="spoilt")
        for at in range(len(states)):
            self.assert_shown(False, states[:at] + states[at + 1:])
            self.assert_shown(False, states[:at] + states[at + 1:], kind="spoilt")
        for told in ([], [START], all_states(TWO, STRICT)):
            self.assert_shown(False, told)
        for odd in (None, (), 0, START[:2], one(None, None), (START[0], 2, START[2]), one(right(note=0), right(note=0)),
                    EqualToAll()):
            self.assert_shown(False, states + [odd])
            self.assert_shown(False, [odd])
        self.assert_shown(False, states, shelf=1)
        self.assert_shown(False, states, keep=Keep(2, 1, ("torn",)))
        self.assert_shown(False, states, plan=STRICT.but("limit", None))

    def test_wronged_in_one_of_them(self):
        states = blame(TWO, STRICT, 0, "spoilt").states
        self.assert_shown(False, states + [one(None, right())])
        self.assert_shown(False, states + [one(cell((0, 1), (0, 1)), right())], kind="spoilt")
        keep = Keep(2, 1)
        self.assert_shown(True, [START], keep=keep)
        self.assert_shown(True, [START, one(None, right())], keep=keep, kind="spoilt")
        self.assert_shown(False, [START, one(None, right())], keep=keep)
        self.assert_shown(True, [START, one(right(), None)], keep=keep)
        aged = one(cell((0, 1), (0, 1)), cell((0, 1), (0, 1)))
        self.assert_shown(True, [START, aged], keep=keep)
        self.assert_shown(False, [START, aged], keep=keep, kind="spoilt")
        self.assert_shown(False, [aged], keep=keep)
        for shelf in (0, 1):
            told = all_states(TWO, FIRST)
            self.assert_shown(False, told, shelf, kind="spoilt", plan=FIRST)
            self.assert_shown(shelf == 0, told, shelf, plan=FIRST)

    def test_each_block(self):
        keep, plan = Keep(1, 2), Plan(("bare", "bare"), (0,))
        start = first_state(keep, plan)
        for halves in ([((0, 1),) * 2, ((1, 0),) * 2], [((0, 0),) * 2, ((1, 0), None)]):
            told = state(copies(*halves), given_up=(False, False))
            more = [start, told, state(copies(((0, 0),) * 2, halves[1]), given_up=(False, False))]
            more.append(state(copies(halves[0], ((1, 0),) * 2), given_up=(False, False)))
            self.assertIs(Fair(more).shows(keep, plan, 0, "out"), True)
            self.assertIs(Fair(more).shows(keep, plan, 0, "spoilt"), False)
            self.assertIs(Fair([start]).shows(keep, plan, 0, "spoilt"), True)


class AttributesTest(Case):
    def test_copied(self):
        history, states = [LOST, ROUND], blame(TWO, STRICT, 0, "out").states
        wronged, fair = Wronged(history), Fair(states)
        history.clear()
        states.clear()
        self.assertEqual(wronged.history, (LOST, ROUND))
        self.assertIs(wronged.shows(TWO, FIRST, 1, "out"), True)
        self.assertIs(fair.shows(TWO, STRICT, 0, "out"), True)

    def test_changed_attributes_are_asked(self):
        found = blame(TWO, FIRST, 1, "out")
        for wrong, good in (((), (DONE, LOST, ROUND)), ([LOST], [LOST, ROUND])):
            found.history = wrong
            self.assertIs(found.shows(TWO, FIRST, 1, "out"), False)
            found.history = good
            self.assertIs(found.shows(TWO, FIRST, 1, "out"), True)
        found = blame(TWO, STRICT, 0, "out")
        last = found.states.pop()
        self.assertIs(found.shows(TWO, STRICT, 0, "out"), False)
        found.states.append(last)
        self.assertIs(found.shows(TWO, STRICT, 0, "out"), True)
        found.states = [START]
        self.assertIs(found.shows(TWO, STRICT, 0, "out"), False)

    def test_equality(self):
        self.assert_equality(Wronged([LOST]), Wronged((LOST,)), True)
        self.assert_equality(Wronged([LOST]), Wronged([]), False)
        self.assert_equality(Fair([START]), Fair([START]), True)
        for other in ([], [START, START]):
            self.assert_equality(Fair([START]), Fair(other), False)
        for first in (Wronged([]), Fair([])):
            for other in (Safe([]), Harmed([]), TWO, STRICT):
                self.assert_equality(first, other, False)
        self.assert_equality(Wronged([]), Fair([]), False)
