"""Keeps: shelves, blocks, and what can harm them; and plans: how copies are taken for right, and mended."""

from quietharm.checks import is_between, is_integer, is_one_of
from quietharm.errors import BadKeep, BadPlan

MOST_SHELVES = 3
MOST_BLOCKS = 2
HARMS = ("astray", "late", "lost", "torn", "worn")
KINDS = ("bare", "whole", "named", "noted")
CHOICES = ("first", "newest", "most")
PARTS = ("sums", "order", "choice", "mends", "limit")


def possible_harms(blocks):
    """All harms that there can be with so many blocks: a write goes astray only to another block."""
    return tuple([word for word in HARMS if word != "astray" or is_between(blocks, 2, MOST_BLOCKS)])


def are_harms(value, blocks):
    """Whether a value is an ascending tuple of harms that there can be with so many blocks."""
    words = possible_harms(blocks)
    if not isinstance(value, tuple) or not all([is_one_of(word, words) for word in value]):
        return False
    return value == tuple([word for word in words if word in value])


def are_sums(value):
    """Whether a value is a tuple with a kind for each block of some keep."""
    if not isinstance(value, tuple) or not 1 <= len(value) <= MOST_BLOCKS:
        return False
    return all([is_one_of(kind, KINDS) for kind in value])


def is_order(value):
    """Whether a value is a tuple of all shelves of some keep, each once."""
    if not isinstance(value, tuple) or not 1 <= len(value) <= MOST_SHELVES:
        return False
    return all([is_integer(shelf) for shelf in value]) and sorted(value) == list(range(len(value)))


class Keep:
    """Shelves with a copy of each block, the harms that can happen to copies, and how many between two rounds."""

    def __init__(self, shelves, blocks, harms=(), *, most=1):
        if not is_between(shelves, 1, MOST_SHELVES):
            raise BadKeep("SHELVES")
        if not is_between(blocks, 1, MOST_BLOCKS):
            raise BadKeep("BLOCKS")
        if not are_harms(harms, blocks):
            raise BadKeep("HARMS")
        if not is_between(most, 0, 2):
            raise BadKeep("MOST")
        self.shelves = shelves
        self.blocks = blocks
        self.harms = harms
        self.most = most

    @classmethod
    def full(cls, shelves, blocks, *, most=1):
        """The keep with all harms that there can be."""
        return cls(shelves, blocks, possible_harms(blocks), most=most)

    def __eq__(self, other):
        return (isinstance(other, Keep) and self.shelves == other.shelves and self.blocks == other.blocks
                and self.harms == other.harms and self.most == other.most)

    def __len__(self):
        return len(range(self.shelves))

    def __contains__(self, x):
        return is_one_of(x, self.harms)

    def __add__(self, other):
        words = possible_harms(self.blocks)
        if not is_one_of(other, words):
            raise BadKeep("HARMS")
        harms = tuple([word for word in words if word == other or word in self.harms])
        return Keep(self.shelves, self.blocks, harms, most=self.most)

    def __sub__(self, other):
        if not is_one_of(other, HARMS):
            raise BadKeep("HARMS")
        harms = tuple([word for word in self.harms if word != other])
        return Keep(self.shelves, self.blocks, harms, most=self.most)


class Plan:
    """How a copy of each block is taken for right, in which order they are taken, and what a round does."""

    def __init__(self, sums, order, *, choice="first", mends=True, limit=None):
        if not are_sums(sums):
            raise BadPlan("SUMS")
        if not is_order(order):
            raise BadPlan("ORDER")
        if not is_one_of(choice, CHOICES):
            raise BadPlan("CHOICE")
        if not isinstance(mends, bool):
            raise BadPlan("MENDS")
        if limit is not None and not is_between(limit, 1, 2):
            raise BadPlan("LIMIT")
        self.sums = sums
        self.order = order
        self.choice = choice
        self.mends = mends
        self.limit = limit

    def __eq__(self, other):
        return (isinstance(other, Plan) and self.sums == other.sums and self.order == other.order
                and self.choice == other.choice and self.mends == other.mends and self.limit == other.limit)

    def but(self, part, value):
        """The plan with another value of the part of this name."""
        if not is_one_of(part, PARTS):
            raise BadPlan(None)
        sums = value if part == "sums" else self.sums
        order = value if part == "order" else self.order
        choice = value if part == "choice" else self.choice
        mends = value if part == "mends" else self.mends
        limit = value if part == "limit" else self.limit
        return Plan(sums, order, choice=choice, mends=mends, limit=limit)

    def turned(self):
        """The plan with its order turned round."""
        return self.but("order", self.order[::-1])


def check_keep(keep):
    """Raise BadKeep if something is not a Keep."""
    if not isinstance(keep, Keep):
        raise BadKeep(None)


def check_plan(keep, plan):
    """Raise BadPlan if something is not a Plan for the keep."""
    if not isinstance(plan, Plan) or len(plan.sums) != keep.blocks or len(plan.order) != keep.shelves:
        raise BadPlan(None)
