"""Plans that tell alike: whether each look has the same word with both, after each history that is possible with both.

Both plans stand in pairs of states: the first one with the one plan, the second one with the other.
"""

from quietharm.checks import is_group
from quietharm.deeds import behind, is_possible, last_state, possible_deeds
from quietharm.keeps import check_keep, check_plan
from quietharm.looks import taken
from quietharm.states import check_block, check_state, first_state, is_state, right_halves
from quietharm.ways import explored, history_to, never_left, shortest_ways


class Alike:
    """Pairs of states that no history leaves that is possible with both plans, and in which all looks are alike."""

    def __init__(self, pairs):
        self.pairs = list(pairs)

    def __eq__(self, other):
        return isinstance(other, Alike) and self.pairs == other.pairs

    def shows(self, keep, one, other):
        """Whether no such history leads out of the pairs, and each look has the same word in both states of each."""
        check_both(keep, one, other)
        return (all([is_pair(keep, one, other, pair) for pair in self.pairs])
                and all([is_alike(one, other, pair) for pair in self.pairs])
                and never_left(self.pairs, first_pair(keep, one, other),
                               lambda pair: steps_of_both(keep, one, other, pair)))


class Parted:
    """A history that is possible with both plans, after which some look has not the same word with both."""

    def __init__(self, history):
        self.history = tuple(history)

    def __eq__(self, other):
        return isinstance(other, Parted) and self.history == other.history

    def shows(self, keep, one, other):
        """Whether it is a history with both plans, and some look has another word after it with the other one."""
        check_both(keep, one, other)
        first = last_state(keep, one, self.history)
        second = last_state(keep, other, self.history)
        return first is not None and second is not None and not is_alike(one, other, (first, second))


def tells(keep, plan, state, block):
    """The word of a look at the block."""
    check_state(keep, plan, state)
    check_block(keep, block)
    return word_of(plan, state, block)


def compare(keep, one, other):
    """An Alike if both plans tell alike, otherwise a Parted."""
    check_both(keep, one, other)
    ways = pair_ways(keep, one, other)
    pair = first_parted(one, other, ways)
    return Alike(list(ways)) if pair is None else Parted(history_to(ways, pair))


def tell_the_same(keep, one, other):
    """Whether both plans tell alike."""
    return parted_after(keep, one, other) is None


def parted_after(keep, one, other):
    """The least number of deeds after which some look has not the same word with both, None if it always has."""
    check_both(keep, one, other)
    ways = pair_ways(keep, one, other)
    pair = first_parted(one, other, ways)
    return None if pair is None else ways[pair][0]


def check_both(keep, one, other):
    """Raise the first error that there is: BadKeep, or BadPlan for one, then for the other."""
    check_keep(keep)
    check_plan(keep, one)
    check_plan(keep, other)


def word_of(plan, state, block):
    """As tells, of a state and a block that are known to be such."""
    halves = taken(plan, state, block)
    if halves is None:
        return "none"
    return "right" if halves == right_halves(block) else "wrong"


def words_in(plan, state):
    """The list of the words of the looks at all blocks."""
    return [word_of(plan, state, block) for block in range(len(plan.sums))]


def pair_ways(keep, one, other):
    """A way of the fewest deeds to each pair that comes about by histories that are possible with both plans."""
    return shortest_ways(explored(first_pair(keep, one, other), lambda pair: steps_of_both(keep, one, other, pair)))


def first_parted(one, other, pairs):
    """The first pair in which some look has not the same word in both states, None if there is none."""
    for pair in pairs:
        if not is_alike(one, other, pair):
            return pair
    return None


def is_alike(one, other, pair):
    """Whether each look has the same word in both states of a pair."""
    return words_in(one, pair[0]) == words_in(other, pair[1])


def is_pair(keep, one, other, thing):
    """Whether something is a pair of a state with the one plan and a state with the other one."""
    return is_group(thing, 2) and is_state(keep, one, thing[0]) and is_state(keep, other, thing[1])


def first_pair(keep, one, other):
    """The pair of both first states."""
    return (first_state(keep, one), first_state(keep, other))


def steps_of_both(keep, one, other, pair):
    """The list of all pairs of a deed that is possible in both states, and the pair of the states behind it."""
    first, second = pair
    return [(deed, (behind(one, first, deed), behind(other, second, deed)))
            for deed in possible_deeds(keep, first) if is_possible(keep, second, deed)]
