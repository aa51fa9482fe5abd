"""Short ways to write keeps, plans and states in the tests, and a keep and plan of each kind."""

import itertools

from quietharm.keeps import Keep, Plan

KINDS = ("bare", "whole", "named", "noted")
CHOICES = ("first", "newest", "most")


class EqualToAll:
    """Something that says of itself that it equals whatever it is compared with."""

    def __eq__(self, other):
        return True


def cell(first, second, note=None, late=None):
    return (first, second, note, late)


def copies(*halves, note=None):
    """A shelf with a copy of each block, as pairs of halves, without notes unless they are told, and with tally 0."""
    return (tuple(cell(first, second, note) for first, second in halves), 0)


def state(*shelves, harms=0, given_up=(False,)):
    return (shelves, harms, given_up)


def one(*cells, tallies=None, harms=0, given_up=False):
    """A state of one block: its cell on each shelf, None where a shelf was put out."""
    tallies = tallies or [0] * len(cells)
    shelves = tuple(None if told is None else ((told,), tally) for told, tally in zip(cells, tallies))
    return (shelves, harms, (given_up,))


def right(block=0, note=None, late=None):
    return cell((block, 0), (block, 0), note, late)


def all_pairs():
    """A keep and a plan for it, with all sizes, sums and limits, and some orders, harms and choices."""
    for shelves, blocks in itertools.product((1, 2, 3), (1, 2)):
        for sums in itertools.product(KINDS, repeat=blocks):
            for limit, most, choice in zip((None, 1, 2), (0, 1, 2), CHOICES):
                keep = Keep(shelves, blocks, ("lost",) if most else (), most=most)
                order = tuple(range(shelves))[::-1]
                yield keep, Plan(sums, order, choice=choice, mends=bool(most), limit=limit)


def parts_replaced(thing, others):
    """All that comes of replacing the thing itself, or something within it, by one of the others."""
    yield from others
    if isinstance(thing, tuple):
        for at, part in enumerate(thing):
            for told in parts_replaced(part, others):
                yield (*thing[:at], told, *thing[at + 1:])


def tuples_spoilt(thing):
    """All that comes of making a list of a tuple, or making it longer or shorter, somewhere."""
    if isinstance(thing, tuple):
        yield list(thing)
        yield (*thing, None)
        yield (*thing, *thing[-1:])
        yield thing[:-1]
        yield thing[1:]
        for at, part in enumerate(thing):
            for told in tuples_spoilt(part):
                yield (*thing[:at], told, *thing[at + 1:])
