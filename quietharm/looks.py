"""Looks: which copies pass, and which halves are taken for right."""

from quietharm.states import cell_on, check_block, check_state, halves_on, shelves_left


def passes(keep, plan, state, block):
    """The shelves whose copies of the block pass, ascending."""
    check_state(keep, plan, state)
    check_block(keep, block)
    return passing(plan, state, block)


def look(keep, plan, state, block):
    """The pair of the halves that a look at the block takes, None if it finds nothing."""
    check_state(keep, plan, state)
    check_block(keep, block)
    return taken(plan, state, block)


def passing(plan, state, block):
    """As passes, of a state and a block that are known to be such."""
    return [shelf for shelf in shelves_left(state) if copy_passes(plan, state, shelf, block)]


def taken(plan, state, block):
    """As look, of a state and a block that are known to be such."""
    passed = passing(plan, state, block)
    if state[2][block] or not passed:
        return None
    copies = [halves_on(state, shelf, block) for shelf in plan.order if shelf in passed]
    if plan.choice == "newest":
        return newest(copies, block)
    if plan.choice == "most":
        return most_frequent(copies)
    return copies[0]


def copy_passes(plan, state, shelf, block):
    """Whether the copy of a block on a shelf that was not put out passes."""
    kind = plan.sums[block]
    first, second = halves_on(state, shelf, block)
    if kind == "bare":
        return True
    if first is None or first != second:
        return False
    if kind == "whole":
        return True
    if first[0] != block:
        return False
    return kind == "named" or first[1] == note_for(state, shelf, block)


def note_for(state, shelf, block):
    """The note for the copy of a block on a shelf: that on the next shelf left, perhaps on the same one."""
    left = shelves_left(state)
    next_one = left[(left.index(shelf) + 1) % len(left)]
    return cell_on(state, next_one, block)[2]


def newest(copies, block):
    """Of pairs of halves, the first one of those whose first half is of the newest write of the block."""
    named = [halves for halves in copies if halves[0] is not None and halves[0][0] == block]
    if not named:
        return copies[0]
    return min(named, key=lambda halves: halves[0][1])


def most_frequent(copies):
    """The pair of halves that most copies have; of several, that which comes first."""
    return max(copies, key=lambda halves: copies.count(halves))
