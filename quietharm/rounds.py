"""Rounds: what is taken of each block, which copies are bad then, and the state that comes of it."""

from quietharm.looks import taken
from quietharm.states import check_state, halves_on, shelves_left


def found_by_round(keep, plan, state):
    """The halves that a round takes of each block, and the pairs of a shelf and a block whose copies are bad."""
    check_state(keep, plan, state)
    return found_in(plan, state)


def found_in(plan, state):
    """As found_by_round, of a state that is known to be one."""
    halves = [taken(plan, state, block) for block in range(len(plan.sums))]
    bad = []
    for block in range(len(plan.sums)):
        if halves[block] is not None:
            bad.extend([(shelf, block) for shelf in shelves_left(state)
                        if halves_on(state, shelf, block) != halves[block]])
    return (halves, bad)


def swept(plan, state):
    """The state behind a round, but that ages are not numbered anew."""
    halves, bad = found_in(plan, state)
    shelves = list(state[0])
    for number in shelves_left(state):
        cells, tally = shelves[number]
        cells = tuple([swept_cell(plan, kind, pair, cell) for kind, pair, cell in zip(plan.sums, halves, cells)])
        shelves[number] = (cells, counted(plan, tally, [pair for pair in bad if pair[0] == number]))
    return (put_out(plan, shelves), 0, tuple([pair is None for pair in halves]))


def swept_cell(plan, kind, halves, cell):
    """A cell behind a round that takes these halves of its block."""
    first, second, note, late = cell
    if halves is None or not plan.mends:
        return (first, second, note, None)
    # What is taken by a note comes of one write of the block itself, so either half has its age.
    note = halves[0][1] if kind == "noted" else None
    return (halves[0], halves[1], note, None)


def counted(plan, tally, bad):
    """The tally of a shelf behind a round that finds these copies on it to be bad."""
    return tally if plan.limit is None else min(tally + len(bad), plan.limit)


def put_out(plan, shelves):
    """The tuple of the shelves, after those whose tally is the limit were put out, as long as one more is left."""
    shelves = list(shelves)
    for number in plan.order[::-1]:
        left = [shelf for shelf in shelves if shelf is not None]
        if len(left) > 1 and shelves[number] is not None and shelves[number][1] == plan.limit:
            shelves[number] = None
    return tuple(shelves)
