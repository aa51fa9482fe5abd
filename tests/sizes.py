"""Keeps and plans with just so many states that something is told, with just too many, and with far too many."""

from quietharm.keeps import Keep, Plan

# Just 400 states come about.
AT_MOST = [
    (Keep(3, 1, ("late", "lost", "torn")), Plan(("noted",), (0, 1, 2), mends=False, limit=2)),
    (Keep(3, 1, ("late", "lost", "worn")), Plan(("whole",), (0, 1, 2), choice="newest", limit=2)),
    (Keep(1, 2, ("late", "torn", "worn")), Plan(("noted", "bare"), (0,), choice="newest", limit=2)),
]

# 401 states come about with the first pair, 402 with the second one, and many more with the others.
BEYOND = [
    (Keep(2, 2, ("astray", "late")), Plan(("named", "noted"), (1, 0), choice="most", mends=False, limit=1)),
    (Keep(3, 1, ("late", "torn"), most=2), Plan(("noted",), (0, 2, 1), mends=False)),
    (Keep.full(2, 2, most=2), Plan(("bare", "whole"), (1, 0))),
    (Keep.full(3, 2), Plan(("named", "noted"), (2, 0, 1), choice="most", mends=False)),
    (Keep.full(3, 2, most=2), Plan(("whole", "bare"), (0, 2, 1), choice="most", limit=1)),
]
