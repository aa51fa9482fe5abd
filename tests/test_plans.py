"""Promise 2, plans: what a plan is, its methods, and which part of it is wrong."""

import itertools
import unittest

from builders import EqualToAll

from quietharm.errors import BadPlan
from quietharm.keeps import Plan

KINDS = ("bare", "whole", "named", "noted")
ALL_SUMS = [sums for size in (1, 2) for sums in itertools.product(KINDS, repeat=size)]
ORDERS = [order for size in (1, 2, 3) for order in itertools.permutations(range(size))]
REST = list(itertools.product(("first", "newest", "most"), (True, False), (1, 2, None)))
NAMES = ("sums", "order", "choice", "mends", "limit")
WRONG = {
    "sums": (None, True, 0, "bare", (), [], ["bare"], {"bare": 1}, ("bare",) * 3, ("none",), ("bare", "Bare"),
             ("bare", True), (True,), (None,), (0,), (["bare"],), (("bare",),), ("bare", b"bare"), ("",),
             (EqualToAll(),), EqualToAll()),
    "order": (None, True, 0, "0", (), [], [0], [0, 1], {0: 0}, range(2), (1,), (-1,), (0, 0), (1, 1), (0, 2), (-1, 0),
              (True,), (False,), (False, True), (0, True), (1, False), (0, 1, 2, 3), (0, 1, 3), (0, 1, 1), (None,),
              ("0",), ((0,),), ([0],), (0, 10 ** 30), (EqualToAll(),),
              EqualToAll()),
    "choice": (None, True, 0, "", "last", "First", "none", ("first",), ["first"], b"first", {"first": 1}, EqualToAll()),
    "mends": (None, 0, 1, "yes", "True", (), (True,), [True], {}, EqualToAll()),
    "limit": (0, 3, -1, 10 ** 30, True, False, "1", "none", (1,), [1], {}, (), EqualToAll()),
}


def parts_of(plan):
    return {name: getattr(plan, name) for name in NAMES}


class PlanTest(unittest.TestCase):
    def assert_part(self, part, make, *told, **named):
        with self.subTest(part=part, told=told, named=named):
            with self.assertRaises(BadPlan) as caught:
                make(*told, **named)
            self.assertEqual(caught.exception.part, part)

    def test_all_plans(self):
        for sums, order, (choice, mends, limit) in itertools.product(ALL_SUMS, ORDERS, REST):
            plan = Plan(sums, order, choice=choice, mends=mends, limit=limit)
            self.assertEqual((plan.sums, plan.order, plan.choice, plan.limit), (sums, order, choice, limit))
            self.assertIs(plan.mends, mends)

    def test_defaults_and_keywords(self):
        plan = Plan(("named",), (1, 0))
        self.assertEqual((plan.choice, plan.mends, plan.limit), ("first", True, None))
        self.assertEqual(Plan(order=(1, 0), sums=("named",), limit=None, mends=True, choice="first"), plan)
        with self.assertRaises(TypeError):
            Plan(("named",), (1, 0), "first")

    def test_wrong_parts(self):
        good = {"sums": ("whole", "noted"), "order": (1, 0), "choice": "most", "mends": False, "limit": 2}
        plan = Plan(good["sums"], good["order"], choice="most", mends=False, limit=2)
        for name, values in WRONG.items():
            for value in values:
                told = {**good, name: value}
                self.assert_part(name.upper(), Plan, told.pop("sums"), told.pop("order"), **told)
                self.assert_part(name.upper(), plan.but, name, value)
        self.assertEqual(parts_of(plan), good)

    def test_first_wrong_part(self):
        wrong = {name: values[-1] for name, values in WRONG.items()}
        right = {"sums": ("bare",), "order": (0,), "choice": "first", "mends": True, "limit": None}
        for at, name in enumerate(NAMES):
            told = {**wrong, **{before: right[before] for before in NAMES[:at]}}
            self.assert_part(name.upper(), Plan, told.pop("sums"), told.pop("order"), **told)

    def test_but(self):
        old = {"sums": ("whole",), "order": (1, 0), "choice": "newest", "mends": False, "limit": 1}
        new = {"sums": [("bare",), ("named", "noted")], "order": [(0, 1), (2, 0, 1), (0,)],
               "choice": ["first", "most"], "mends": [True], "limit": [2, None]}
        plan = Plan(old["sums"], old["order"], choice="newest", mends=False, limit=1)
        for name in NAMES:
            for value in new[name] + [old[name]]:
                self.assertEqual(parts_of(plan.but(name, value)), {**old, name: value})
                self.assertEqual(parts_of(plan), old)

    def test_but_with_another_name(self):
        plan = Plan(("whole",), (0,))
        for name in (None, True, 0, "", "SUMS", "Sums", "sum", "shelves", "turned", "but", ("sums",), ["sums"], {},
                     b"sums", EqualToAll()):
            self.assert_part(None, plan.but, name, ("bare",))
            self.assert_part(None, plan.but, name, None)

    def test_turned(self):
        for order in ORDERS:
            plan = Plan(("whole",), order, choice="most", mends=False, limit=2)
            turned = {**parts_of(plan), "order": tuple(reversed(order))}
            self.assertEqual(parts_of(plan.turned()), turned)
            self.assertEqual(plan.order, order)
            self.assertEqual(plan.turned().turned(), plan)

    def test_equality(self):
        plan = Plan(("whole",), (0, 1), choice="newest", mends=True, limit=1)
        same = Plan(("whole",), (0, 1), choice="newest", mends=True, limit=1)
        self.assertTrue(plan == same)
        self.assertFalse(plan != same)
        for name, value in (("sums", ("bare",)), ("sums", ("whole", "whole")), ("order", (1, 0)), ("order", (0, 1, 2)),
                            ("choice", "first"), ("mends", False), ("limit", 2), ("limit", None)):
            with self.subTest(name=name, value=value):
                self.assertFalse(plan == plan.but(name, value))
                self.assertTrue(plan != plan.but(name, value))

    def test_wrong_list_is_not_changed(self):
        order = [1, 0]
        self.assert_part("ORDER", Plan, ("bare",), order)
        self.assertEqual(order, [1, 0])


if __name__ == "__main__":
    unittest.main()
