"""Promises 5 to 8 for many keeps, plans and states that are drawn by lot, beside what the words say of them."""

import random
import unittest

from builders import CHOICES, KINDS
from model import (Store, after_by_the_words, deeds_by_the_words, look_by_the_words, reach_by_the_words,
                   seen_by_the_words, shapes_by_the_words, wishes_by_the_words)

from quietharm.deeds import after, all_states, deeds, harms_in, trace
from quietharm.errors import TooLarge
from quietharm.judging import WISHES, Harmed, Safe, fewest, fulfils, is_safe, judge, soonest
from quietharm.keeps import Keep, Plan
from quietharm.rounds import found_by_round
from quietharm.sights import blind_spots, shapes, sight
from quietharm.states import is_state

HARMS = ("astray", "late", "lost", "torn", "worn")


def some_pair(lot):
    shelves, blocks = lot.randint(1, 3), lot.randint(1, 2)
    harms = tuple(word for word in HARMS if lot.random() < 0.4 and (word != "astray" or blocks == 2))
    order = lot.sample(range(shelves), shelves)
    keep = Keep(shelves, blocks, harms, most=lot.randint(0, 2))
    return keep, Plan(tuple(lot.choices(KINDS, k=blocks)), tuple(order), choice=lot.choice(CHOICES),
                      mends=lot.random() < 0.6, limit=lot.choice((None, 1, 2)))


def some_half(lot, blocks):
    return None if lot.random() < 0.15 else (lot.randrange(blocks), lot.choice((0, 0, 0, 1, 1, 2, 3)))


def some_cell(lot, kind, blocks):
    first = some_half(lot, blocks)
    second = first if lot.random() < 0.5 else some_half(lot, blocks)
    note = lot.choice((0, 0, 1, 2)) if kind == "noted" else None
    return (first, second, note, lot.choice((None, None, 0, 1, 2)))


def some_state(lot, keep, plan):
    """A state, whether a history leads to it or not; ages are numbered by the words."""
    while True:
        shelves = []
        for at in range(keep.shelves):
            cells = tuple(some_cell(lot, kind, keep.blocks) for kind in plan.sums)
            gone = plan.limit is not None and lot.random() < 0.25
            shelves.append(None if gone else (cells, lot.randint(0, plan.limit or 0)))
        given_up = tuple(lot.random() < 0.2 for block in range(keep.blocks))
        told = Store(plan, (tuple(shelves), lot.randint(0, keep.most), given_up)).as_state()
        if is_state(keep, plan, told):
            return told


class SweepTest(unittest.TestCase):
    def test_states_and_what_is_behind_them(self):
        lot = random.Random(5)
        for turn in range(1500):
            keep, plan = some_pair(lot)
            told = some_state(lot, keep, plan)
            with self.subTest(keep=vars(keep), plan=vars(plan), told=told):
                found = deeds(keep, plan, told)
                self.assertEqual(found, deeds_by_the_words(keep, told))
                for deed in lot.sample(found, min(len(found), 8)) + [("round",)]:
                    later = after(keep, plan, told, deed)
                    self.assertEqual(later, after_by_the_words(plan, told, deed), deed)
                    self.assertTrue(is_state(keep, plan, later))
                self.assert_found_by_round(keep, plan, told)
                fulfilled = [wish for wish in WISHES if fulfils(keep, plan, told, wish=wish)]
                self.assertEqual(fulfilled, wishes_by_the_words(plan, told))
                for block in range(keep.blocks):
                    self.assertEqual(shapes(keep, plan, told, block), shapes_by_the_words(told, block))

    def assert_found_by_round(self, keep, plan, told):
        halves = [look_by_the_words(plan, told, block)[1] for block in range(keep.blocks)]
        bad = [(at, block) for block in range(keep.blocks) for at, shelf in enumerate(told[0])
               if shelf is not None and halves[block] not in (None, shelf[0][block][:2])]
        self.assertEqual(found_by_round(keep, plan, told), (halves, bad))

    def test_histories(self):
        lot = random.Random(6)
        for turn in range(150):
            keep, plan = some_pair(lot)
            history, states = [], trace(keep, plan, [])
            for size in range(12):
                history.append(lot.choice(deeds(keep, plan, states[-1])))
                states.append(after_by_the_words(plan, states[-1], history[-1]))
            self.assertEqual(trace(keep, plan, history), states)
            rounds = [at for at, deed in enumerate(history) if deed == ("round",)]
            harms = sum(states[at][1] for at in rounds) + states[-1][1]
            self.assertEqual(harms_in(keep, plan, tuple(history)), harms)

    def test_all_histories(self):
        lot = random.Random(7)
        told, refused = 0, 0
        while told < 60:
            keep, plan = some_pair(lot)
            found = reach_by_the_words(keep, plan, most=400)
            if found is None:
                refused += 1
                with self.assertRaises(TooLarge):
                    all_states(keep, plan)
            elif len(found) < 150:
                told += 1
                with self.subTest(keep=vars(keep), plan=vars(plan)):
                    self.assert_judged(keep, plan, found)
                    self.assert_seen(keep, plan, found)
        self.assertGreater(refused, 5)

    def assert_judged(self, keep, plan, found):
        states = all_states(keep, plan)
        self.assertEqual((len(states), set(states)), (len(found), set(found)))
        fulfilled = {told: wishes_by_the_words(plan, told) for told in found}
        for wish in WISHES:
            bad = [numbers for told, numbers in found.items() if wish not in fulfilled[told]]
            answer = judge(keep, plan, wish=wish)
            self.assertIsInstance(answer, Harmed if bad else Safe)
            self.assertTrue(answer.shows(keep, plan, wish=wish))
            self.assertEqual(Safe(states).shows(keep, plan, wish=wish), not bad)
            self.assertEqual(is_safe(keep, plan, wish=wish), not bad)
            least = [min([numbers[at] for numbers in bad], default=None) for at in (0, 1)]
            self.assertEqual([soonest(keep, plan, wish=wish), fewest(keep, plan, wish=wish)], least)

    def assert_seen(self, keep, plan, found):
        for block in range(keep.blocks):
            rows = [seen_by_the_words(plan, told, block) for told in found]
            want = [sorted({shape for row in rows for shape in row[at]}) for at in (0, 1)]
            answer = sight(keep, plan, block)
            self.assertEqual([list(answer.seen), list(answer.unseen)], want)
            self.assertTrue(answer.shows(keep, plan, block))
            self.assertEqual(blind_spots(keep, plan, block), want[1])


if __name__ == "__main__":
    unittest.main()
