"""Where so many states come about as may, all is answered soon; where more do, only some functions are refused."""

import time
import unittest

from sizes import AT_MOST, BEYOND

from quietharm.deeds import after, all_states, deeds, harms_in, trace
from quietharm.errors import TooLarge
from quietharm.judging import WISHES, Harmed, Safe, fewest, fulfils, is_safe, judge, soonest
from quietharm.keeps import Keep, Plan
from quietharm.rounds import found_by_round
from quietharm.sights import Sight, blind_spots, shapes, sight
from quietharm.states import first_state

# Nearly as many states as there may be, each with many deeds, and the largest keeps.
MANY_DEEDS = [
    (Keep(3, 2, ("late", "torn")), Plan(("named", "named"), (2, 1, 0), choice="most", mends=False)),
    (Keep(3, 1, ("late", "torn"), most=2), Plan(("whole",), (1, 0, 2), limit=1)),
    (Keep(2, 2, ("worn",), most=2), Plan(("bare", "named"), (0, 1))),
    (Keep(3, 2, ("lost",), most=2), Plan(("noted", "named"), (2, 0, 1), limit=1)),
]
SECONDS = 5


class SizesTest(unittest.TestCase):
    def soon(self, ask, *told, **more):
        start = time.perf_counter()
        answer = ask(*told, **more)
        self.assertLess(time.perf_counter() - start, SECONDS)
        return answer

    def test_all_is_answered_soon(self):
        for at, (keep, plan) in enumerate(AT_MOST + MANY_DEEDS):
            wish, block = WISHES[at % 4], at % keep.blocks
            states = self.soon(all_states, keep, plan)
            self.assertGreater(len(states), 300)
            judged = self.soon(judge, keep, plan, wish=wish)
            self.assertTrue(self.soon(judged.shows, keep, plan, wish=wish))
            self.soon(Safe(states * 10).shows, keep, plan, wish=wish)
            self.assertEqual(self.soon(is_safe, keep, plan, wish=wish), isinstance(judged, Safe))
            numbers = [self.soon(ask, keep, plan, wish=wish) for ask in (soonest, fewest)]
            self.assertEqual([number is None for number in numbers], [isinstance(judged, Safe)] * 2)
            seen = self.soon(sight, keep, plan, block)
            self.assertTrue(self.soon(seen.shows, keep, plan, block))
            self.assertEqual(self.soon(blind_spots, keep, plan, block), list(seen.unseen))

    def test_long_histories_are_answered_soon(self):
        keep, plan = BEYOND[3]
        history = [("write", 0, ("done", "done", "late")), ("land", 2, 0), ("round",)] * 300
        self.assertEqual(len(self.soon(trace, keep, plan, history)), 901)
        self.assertEqual(self.soon(harms_in, keep, plan, history), 300)
        self.soon(Harmed(history).shows, keep, plan)
        self.soon(Sight([], {"old": history}, {}).shows, keep, plan, 0)

    def test_just_these_functions_are_refused(self):
        for keep, plan in BEYOND:
            for ask in (all_states, judge, is_safe, soonest, fewest):
                with self.assertRaises(TooLarge):
                    self.soon(ask, keep, plan)
            for ask in (sight, blind_spots):
                with self.assertRaises(TooLarge):
                    self.soon(ask, keep, plan, 0)
            start = first_state(keep, plan)
            for deed in self.soon(deeds, keep, plan, start):
                after(keep, plan, start, deed)
            self.assertEqual(found_by_round(keep, plan, start)[1], [])
            self.assertTrue(fulfils(keep, plan, start))
            self.assertEqual(shapes(keep, plan, start, 0), [None] * keep.shelves)
            for answer in (Safe([start]), Harmed([("round",)]), Harmed([])):
                self.assertFalse(answer.shows(keep, plan))
            self.assertFalse(Sight([start], {}, {}).shows(keep, plan, 0))


if __name__ == "__main__":
    unittest.main()
