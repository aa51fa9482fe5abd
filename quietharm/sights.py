"""What sums see: of what shape the copies that are not right are, and which shapes pass nevertheless."""

from quietharm.deeds import last_state
from quietharm.judging import is_closed, soonest_ways
from quietharm.keeps import check_keep, check_plan
from quietharm.looks import passing
from quietharm.states import check_block, check_state, halves_on, shelves_left
from quietharm.ways import history_to

SHAPES = ("old", "strange", "torn", "worn")


class Sight:
    """States that no history leaves, and histories after which the shapes in them are seen, and unseen."""

    def __init__(self, states, seen, unseen):
        self.states = list(states)
        self.seen = {shape: tuple(seen[shape]) for shape in seen}
        self.unseen = {shape: tuple(unseen[shape]) for shape in unseen}

    def __eq__(self, other):
        return (isinstance(other, Sight) and self.states == other.states and self.seen == other.seen
                and self.unseen == other.unseen)

    def shows(self, keep, plan, block):
        """Whether no history leads out of the states, and both dicts have just the shapes of them, with histories."""
        check_asked(keep, plan, block)
        return (is_closed(keep, plan, self.states)
                and are_histories(keep, plan, block, False, self.states, self.seen)
                and are_histories(keep, plan, block, True, self.states, self.unseen))


def shapes(keep, plan, state, block):
    """The shape of the copy of the block on each shelf, None if it is right, or if the shelf was put out."""
    check_state(keep, plan, state)
    check_block(keep, block)
    left = shelves_left(state)
    return [shape_of(halves_on(state, shelf, block), block) if shelf in left else None
            for shelf in range(keep.shelves)]


def sight(keep, plan, block):
    """What the sum of a block sees after all histories, and what it does not see."""
    check_asked(keep, plan, block)
    ways = soonest_ways(keep, plan)
    return Sight(list(ways), histories_to(plan, block, False, ways), histories_to(plan, block, True, ways))


def blind_spots(keep, plan, block):
    """The shapes that are unseen in some state that comes about, in the order of their names."""
    check_asked(keep, plan, block)
    return list(first_states(plan, block, True, soonest_ways(keep, plan)))


def check_asked(keep, plan, block):
    """Raise the first error that there is: BadKeep, BadPlan, or BadBlock."""
    check_keep(keep)
    check_plan(keep, plan)
    check_block(keep, block)


def shape_of(halves, block):
    """The shape of a copy of the block with these halves, None if it is right."""
    first, second = halves
    if first is None or second is None:
        return "worn"
    if first != second:
        return "torn"
    if first[0] != block:
        return "strange"
    return None if first[1] == 0 else "old"


def shapes_in(plan, state, block, unseen):
    """The list of the shapes that are unseen in a state, or else of those that are seen in it."""
    passed = passing(plan, state, block)
    found = [shape_of(halves_on(state, shelf, block), block) for shelf in shelves_left(state)
             if (shelf in passed) == unseen]
    return [shape for shape in SHAPES if shape in found]


def first_states(plan, block, unseen, states):
    """A dict from the shapes that are unseen, or else seen, in some of the states, to the first one of these."""
    found = {}
    for state in states:
        for shape in shapes_in(plan, state, block, unseen):
            if shape not in found:
                found[shape] = state
    return {shape: found[shape] for shape in SHAPES if shape in found}


def histories_to(plan, block, unseen, ways):
    """A dict from the shapes that are unseen, or else seen, in some state, to a history after which they are."""
    found = first_states(plan, block, unseen, ways)
    return {shape: history_to(ways, found[shape]) for shape in found}


def are_histories(keep, plan, block, unseen, states, histories):
    """Whether a dict is, in any order, as what histories_to returns for these states may be."""
    found = first_states(plan, block, unseen, states)
    if len(histories) != len(found) or not all([shape in histories for shape in found]):
        return False
    for shape in found:
        state = last_state(keep, plan, histories[shape])
        if state is None or shape not in shapes_in(plan, state, block, unseen):
            return False
    return True
