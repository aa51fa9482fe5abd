"""Wishes: whether each is fulfilled after all histories, with the states that show it, or a history after which not."""

from quietharm.checks import is_one_of
from quietharm.deeds import all_steps, harms_of, last_state, steps
from quietharm.errors import BadWish
from quietharm.keeps import check_keep, check_plan
from quietharm.looks import taken
from quietharm.states import are_states, check_state, first_state, right_halves, right_ones
from quietharm.ways import cheapest_ways, history_to, never_left, shortest_ways

WISHES = ("true", "kept", "left", "open")


class Safe:
    """A list of states that shows that a wish is fulfilled after all histories."""

    def __init__(self, states):
        self.states = list(states)

    def __eq__(self, other):
        return isinstance(other, Safe) and self.states == other.states

    def shows(self, keep, plan, *, wish="true"):
        """Whether no history leads out of the states, and the wish is fulfilled in all of them."""
        check_question(keep, plan, wish)
        return (is_closed(keep, plan, self.states)
                and all([is_fulfilled(plan, state, wish) for state in self.states]))


class Harmed:
    """A history after which a wish is not fulfilled."""

    def __init__(self, history):
        self.history = tuple(history)

    def __eq__(self, other):
        return isinstance(other, Harmed) and self.history == other.history

    def shows(self, keep, plan, *, wish="true"):
        """Whether it is a history, and the wish is not fulfilled after it."""
        check_question(keep, plan, wish)
        state = last_state(keep, plan, self.history)
        return state is not None and not is_fulfilled(plan, state, wish)


def fulfils(keep, plan, state, *, wish="true"):
    """Whether a wish is fulfilled in a state."""
    check_state(keep, plan, state)
    check_wish(wish)
    return is_fulfilled(plan, state, wish)


def judge(keep, plan, *, wish="true"):
    """A Safe if the wish is fulfilled after all histories, otherwise a Harmed."""
    check_question(keep, plan, wish)
    ways = soonest_ways(keep, plan)
    state = first_failing(plan, ways, wish)
    return Safe(list(ways)) if state is None else Harmed(history_to(ways, state))


def is_safe(keep, plan, *, wish="true"):
    """Whether the wish is fulfilled after all histories."""
    return soonest(keep, plan, wish=wish) is None


def soonest(keep, plan, *, wish="true"):
    """The least number of deeds after which the wish is not fulfilled, None if it always is."""
    check_question(keep, plan, wish)
    return least(plan, soonest_ways(keep, plan), wish)


def fewest(keep, plan, *, wish="true"):
    """The least number of harms after which the wish is not fulfilled, None if it always is."""
    check_question(keep, plan, wish)
    return least(plan, cheapest_ways(all_steps(keep, plan), harms_of), wish)


def check_question(keep, plan, wish):
    """Raise the first error that there is: BadKeep, BadPlan, or BadWish."""
    check_keep(keep)
    check_plan(keep, plan)
    check_wish(wish)


def check_wish(wish):
    """Raise BadWish if something is not one of the wishes."""
    if not is_one_of(wish, WISHES):
        raise BadWish("this is not one of the wishes")


def soonest_ways(keep, plan):
    """A way of the fewest deeds to each state that comes about."""
    return shortest_ways(all_steps(keep, plan))


def first_failing(plan, ways, wish):
    """The first state in which the wish is not fulfilled, so one of the cheapest; None if there is none."""
    for state in ways:
        if not is_fulfilled(plan, state, wish):
            return state
    return None


def least(plan, ways, wish):
    """What a way to a state costs at least in which the wish is not fulfilled, None if there is none."""
    state = first_failing(plan, ways, wish)
    return None if state is None else ways[state][0]


def is_fulfilled(plan, state, wish):
    """As fulfils, of a state and a wish that are known to be such."""
    return all([is_fulfilled_for(plan, state, block, wish) for block in range(len(plan.sums))])


def is_fulfilled_for(plan, state, block, wish):
    """Whether a wish is fulfilled in a state as to one block."""
    if wish == "left":
        return bool(right_ones(state, block))
    halves = taken(plan, state, block)
    if wish == "open":
        return halves is not None
    is_true = halves is None or halves == right_halves(block)
    if wish == "true":
        return is_true
    return is_true or not plan.mends or not right_ones(state, block)


def is_closed(keep, plan, states):
    """Whether the first state is in a list of states, and with each state in it all to which a possible deed leads."""
    return (are_states(keep, plan, states)
            and never_left(states, first_state(keep, plan), lambda state: steps(keep, plan, state)))
