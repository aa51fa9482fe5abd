"""Shelves put out together: which of them, after all histories."""

from quietharm.deeds import last_state
from quietharm.groups import all_parts
from quietharm.judging import is_closed, soonest_ways
from quietharm.keeps import check_keep, check_plan
from quietharm.states import check_state
from quietharm.ways import history_to


class Outs:
    """Histories after which just some shelves were put out, and states that show that these are all such shelves."""

    def __init__(self, histories, states):
        self.histories = {shelves: tuple(histories[shelves]) for shelves in histories}
        self.states = list(states)

    def __eq__(self, other):
        return isinstance(other, Outs) and self.histories == other.histories and self.states == other.states

    def shows(self, keep, plan):
        """Whether each history leads to its shelves, and no history leads out of states in which just such are out."""
        check_keep(keep)
        check_plan(keep, plan)
        return (all([is_after(keep, plan, self.histories[shelves], shelves) for shelves in self.histories])
                and is_closed(keep, plan, self.states)
                and all([shelves_out(state) in self.histories for state in self.states]))


def out_in(keep, plan, state):
    """The ascending tuple of the shelves that were put out in a state."""
    check_state(keep, plan, state)
    return shelves_out(state)


def outs(keep, plan):
    """The Outs of a keep with a plan."""
    check_keep(keep)
    check_plan(keep, plan)
    ways = soonest_ways(keep, plan)
    found = {}
    for state in ways:
        found.setdefault(shelves_out(state), state)
    keys = [shelves for shelves in all_parts(tuple(range(keep.shelves))) if shelves in found]
    return Outs({shelves: history_to(ways, found[shelves]) for shelves in keys}, list(ways))


def all_outs(keep, plan):
    """All ascending tuples of the shelves that were put out in some state, by their lengths, then as tuples."""
    return list(outs(keep, plan).histories)


def shelves_out(state):
    """As out_in, of a state that is known to be one."""
    shelves = state[0]
    return tuple([number for number in range(len(shelves)) if shelves[number] is None])


def is_after(keep, plan, history, shelves):
    """Whether just these shelves were put out after a list or tuple of deeds, and it is a history."""
    state = last_state(keep, plan, history)
    return state is not None and shelves_out(state) == shelves
