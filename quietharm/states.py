"""States of a keep with a plan: what is on the shelves, how many harms there were, and what was given up.

A state is (shelves, harms, given up); a shelf is (cells, tally), or None if it was put out; a cell is
(first half, second half, note, late); a half is (block, age), or None if it is worn.
"""

from quietharm.checks import is_between, is_group, is_integer
from quietharm.errors import BadBlock, BadState
from quietharm.keeps import check_keep, check_plan


def first_state(keep, plan):
    """The state before all deeds."""
    check_keep(keep)
    check_plan(keep, plan)
    cells = []
    for block in range(keep.blocks):
        note = 0 if plan.sums[block] == "noted" else None
        cells.append(((block, 0), (block, 0), note, None))
    shelf = (tuple(cells), 0)
    return ((shelf,) * keep.shelves, 0, (False,) * keep.blocks)


def is_state(keep, plan, thing):
    """Whether something is a state, whether a history leads to it or not."""
    check_keep(keep)
    check_plan(keep, plan)
    if not is_group(thing, 3):
        return False
    shelves, harms, given_up = thing
    return (is_between(harms, 0, keep.most) and are_flags(given_up, keep.blocks)
            and are_shelves(keep, plan, shelves)
            and all([are_numbered(ages_left(shelves, block)) for block in range(keep.blocks)]))


def are_states(keep, plan, things):
    """Whether all of some things are states."""
    return all([is_state(keep, plan, thing) for thing in things])


def right_shelves(keep, plan, state, block):
    """The shelves that were not put out with a right copy of the block, ascending."""
    check_state(keep, plan, state)
    check_block(keep, block)
    return right_ones(state, block)


def check_state(keep, plan, state):
    """Raise the first error that there is: BadKeep, BadPlan, or BadState."""
    if not is_state(keep, plan, state):
        raise BadState("this is not a state of the keep with the plan")


def check_block(keep, block):
    """Raise BadBlock if something is not a block of the keep."""
    if not is_between(block, 0, keep.blocks - 1):
        raise BadBlock("this is not a block of the keep")


def shelves_left(state):
    """The numbers of the shelves that were not put out, ascending."""
    shelves = state[0]
    return [number for number in range(len(shelves)) if shelves[number] is not None]


def cell_on(state, shelf, block):
    """The cell of a block on a shelf that was not put out."""
    cells, tally = state[0][shelf]
    return cells[block]


def halves_on(state, shelf, block):
    """The pair of the halves of the copy of a block on a shelf that was not put out."""
    first, second, note, late = cell_on(state, shelf, block)
    return (first, second)


def right_ones(state, block):
    """As right_shelves, of a state and a block that are known to be such."""
    return [shelf for shelf in shelves_left(state) if halves_on(state, shelf, block) == right_halves(block)]


def right_halves(block):
    """The halves of a right copy of a block."""
    return ((block, 0), (block, 0))


def are_shelves(keep, plan, thing):
    """Whether something is a tuple of all shelves, but for how ages are numbered."""
    if not is_group(thing, keep.shelves):
        return False
    left = [shelf for shelf in thing if shelf is not None]
    if not left or not all([is_shelf(keep, plan, shelf) for shelf in left]):
        return False
    if plan.limit is None:
        return len(left) == keep.shelves
    return len(left) == 1 or all([tally < plan.limit for cells, tally in left])


def is_shelf(keep, plan, thing):
    """Whether something is a pair of the cells and the tally of a shelf."""
    if not is_group(thing, 2):
        return False
    cells, tally = thing
    greatest = 0 if plan.limit is None else plan.limit
    if not is_between(tally, 0, greatest) or not is_group(cells, keep.blocks):
        return False
    return all([is_cell(keep, kind, cell) for kind, cell in zip(plan.sums, cells)])


def is_cell(keep, kind, thing):
    """Whether something is a cell of a block with this kind of sum."""
    if not is_group(thing, 4):
        return False
    first, second, note, late = thing
    has_note = is_age(note) if kind == "noted" else note is None
    return is_half(keep, first) and is_half(keep, second) and has_note and (late is None or is_age(late))


def is_half(keep, thing):
    """Whether something is a half: worn, or of a write of some block of the keep."""
    if thing is None:
        return True
    return is_group(thing, 2) and is_between(thing[0], 0, keep.blocks - 1) and is_age(thing[1])


def is_age(thing):
    """Whether something can be an age, of some write."""
    return is_integer(thing) and thing >= 0


def are_flags(thing, size):
    """Whether something is a tuple of so many booleans."""
    return is_group(thing, size) and all([isinstance(flag, bool) for flag in thing])


def ages_left(shelves, block):
    """The ages of all writes of a block of which something is left, perhaps some more than once."""
    ages = []
    for cells in [shelf[0] for shelf in shelves if shelf is not None]:
        for first, second, note, late in cells:
            ages.extend([half[1] for half in (first, second) if half is not None and half[0] == block])
        ages.extend([age for age in cells[block][2:] if age is not None])
    return ages


def are_numbered(ages):
    """Whether ages above 0 are numbered 1, 2 and so on; of the last write itself nothing need be left."""
    return all([age < 2 or age - 1 in ages for age in ages])
