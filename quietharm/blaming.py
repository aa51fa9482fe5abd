"""Shelves that are wronged: put out, or with a copy that is not right, though no deed harmed them."""

from quietharm.checks import is_between, is_one_of
from quietharm.deeds import all_steps, harms_of, last_state, steps
from quietharm.errors import BadKind, BadShelf
from quietharm.keeps import check_keep, check_plan
from quietharm.states import are_states, first_state, right_ones
from quietharm.ways import allowed, cheapest_ways, history_to, never_left

WRONGS = ("out", "spoilt")


class Wronged:
    """A history that does not harm a shelf, after which it is wronged."""

    def __init__(self, history):
        self.history = tuple(history)

    def __eq__(self, other):
        return isinstance(other, Wronged) and self.history == other.history

    def shows(self, keep, plan, shelf, kind):
        """Whether it is a history, no deed of it harms the shelf, and the shelf is wronged after it."""
        check_asked(keep, plan, shelf, kind)
        state = last_state(keep, plan, self.history)
        return (state is not None and not any([does_harm(deed, shelf) for deed in self.history])
                and is_wrong(state, shelf, kind))


class Fair:
    """States that no history leaves that does not harm a shelf, and in none of which it is wronged."""

    def __init__(self, states):
        self.states = list(states)

    def __eq__(self, other):
        return isinstance(other, Fair) and self.states == other.states

    def shows(self, keep, plan, shelf, kind):
        """Whether no such history leads out of the states, and the shelf is wronged in none of them."""
        check_asked(keep, plan, shelf, kind)
        return (are_states(keep, plan, self.states)
                and not any([is_wrong(state, shelf, kind) for state in self.states])
                and never_left(self.states, first_state(keep, plan),
                               lambda state: unharming_steps(keep, plan, state, shelf)))


def blame(keep, plan, shelf, kind):
    """A Wronged if the shelf is wronged in this way, otherwise a Fair."""
    check_asked(keep, plan, shelf, kind)
    ways = unharming_ways(all_steps(keep, plan), shelf)
    state = first_wrong(ways, shelf, kind)
    return Fair(list(ways)) if state is None else Wronged(history_to(ways, state))


def is_wronged(keep, plan, shelf, kind):
    """Whether the shelf is wronged in this way."""
    return fewest_harms(keep, plan, shelf, kind) is not None


def fewest_harms(keep, plan, shelf, kind):
    """The least number of harms in a history that wrongs the shelf, None if there is none."""
    check_asked(keep, plan, shelf, kind)
    return fewest_in(all_steps(keep, plan), shelf, kind)


def wronged_shelves(keep, plan, kind):
    """All shelves that are wronged in this way, ascending."""
    check_keep(keep)
    check_plan(keep, plan)
    check_kind(kind)
    found = all_steps(keep, plan)
    return [shelf for shelf in range(keep.shelves) if fewest_in(found, shelf, kind) is not None]


def check_asked(keep, plan, shelf, kind):
    """Raise the first error that there is: BadKeep, BadPlan, BadShelf, or BadKind."""
    check_keep(keep)
    check_plan(keep, plan)
    if not is_between(shelf, 0, keep.shelves - 1):
        raise BadShelf("this is not a shelf of the keep")
    check_kind(kind)


def check_kind(kind):
    """Raise BadKind if something is not one of both ways."""
    if not is_one_of(kind, WRONGS):
        raise BadKind("this is not one of the ways in which a shelf is wronged")


def unharming_ways(found, shelf):
    """A way of the fewest harms to each state to which deeds lead that do not harm the shelf."""
    return cheapest_ways(allowed(found, lambda deed: not does_harm(deed, shelf)), harms_of)


def unharming_steps(keep, plan, state, shelf):
    """The steps from a state whose deeds do not harm the shelf."""
    return [(deed, later) for deed, later in steps(keep, plan, state) if not does_harm(deed, shelf)]


def first_wrong(ways, shelf, kind):
    """The first state in which the shelf is wronged, so one of the cheapest; None if there is none."""
    for state in ways:
        if is_wrong(state, shelf, kind):
            return state
    return None


def fewest_in(found, shelf, kind):
    """As fewest_harms, in what all_steps found."""
    ways = unharming_ways(found, shelf)
    state = first_wrong(ways, shelf, kind)
    return None if state is None else ways[state][0]


def does_harm(deed, shelf):
    """Whether a deed harms the shelf."""
    if deed[0] == "write":
        return deed[2][shelf] != "done"
    return deed[0] == "wear" and deed[1] == shelf


def is_wrong(state, shelf, kind):
    """Whether the shelf was put out in a state, or has a copy there that is not right, as the way says."""
    if kind == "out":
        return state[0][shelf] is None
    return state[0][shelf] is not None and not all([shelf in right_ones(state, block)
                                                    for block in range(len(state[2]))])
