"""Prices of sums and of mending: what plans cost, and which is the cheapest with which a wish is always fulfilled."""

from quietharm.checks import is_between, is_one_of
from quietharm.errors import BadPlan, BadPrices
from quietharm.groups import all_tuples
from quietharm.judging import Harmed, Safe, check_wish, first_failing, soonest_ways
from quietharm.keeps import KINDS, Plan, check_keep, check_plan
from quietharm.ways import history_to

PRICED = ("bare", "whole", "named", "noted", "mends")


class Cheapest:
    """A plan with states that show that it is safe, and histories that show that all cheaper offers are not."""

    def __init__(self, plan, states, histories):
        self.plan = plan
        self.states = list(states)
        self.histories = {key: tuple(histories[key]) for key in histories}

    def __eq__(self, other):
        return (isinstance(other, Cheapest) and self.plan == other.plan and self.states == other.states
                and self.histories == other.histories)

    def shows(self, keep, plan, prices, *, wish="true"):
        """Whether the plan is an offer, the states show that it is safe, and the histories that no cheaper one is."""
        check_asked(keep, plan, prices, wish)
        found = offers_beside(plan, prices)
        if self.plan not in found:
            return False
        cheaper = [offer for offer in found if cost_of(offer, prices) < cost_of(self.plan, prices)]
        return (are_failing(keep, cheaper, self.histories, wish)
                and Safe(self.states).shows(keep, self.plan, wish=wish))


class NoPlan:
    """Histories that show that no offer is safe."""

    def __init__(self, histories):
        self.histories = {key: tuple(histories[key]) for key in histories}

    def __eq__(self, other):
        return isinstance(other, NoPlan) and self.histories == other.histories

    def shows(self, keep, plan, prices, *, wish="true"):
        """Whether there is a history for each offer, after which the wish is not fulfilled."""
        check_asked(keep, plan, prices, wish)
        return are_failing(keep, offers_beside(plan, prices), self.histories, wish)


def cost(plan, prices):
    """What a plan costs."""
    if not isinstance(plan, Plan):
        raise BadPlan(None)
    check_prices(prices, PRICED)
    return cost_of(plan, prices)


def offers(keep, plan, prices):
    """All offers beside a plan, in their order."""
    check_priced(keep, plan, prices)
    return offers_beside(plan, prices)


def cheapest(keep, plan, prices, *, wish="true"):
    """A Cheapest if the wish is fulfilled after all histories with some offer, otherwise a NoPlan."""
    check_asked(keep, plan, prices, wish)
    histories = {}
    costs = {}
    for offer in offers_beside(plan, prices):
        ways = soonest_ways(keep, offer)
        state = first_failing(offer, ways, wish)
        if state is None:
            return Cheapest(offer, list(ways), {key: histories[key] for key in histories
                                                if costs[key] < cost_of(offer, prices)})
        histories[key_of(offer)] = history_to(ways, state)
        costs[key_of(offer)] = cost_of(offer, prices)
    return NoPlan(histories)


def least_cost(keep, plan, prices, *, wish="true"):
    """What the plan of a Cheapest costs, None if there is a NoPlan."""
    found = cheapest(keep, plan, prices, wish=wish)
    return None if isinstance(found, NoPlan) else cost_of(found.plan, prices)


def check_prices(prices, names):
    """Raise BadPrices if something is not a dict with an integer from 0 to 9 for exactly these names."""
    if not isinstance(prices, dict) or len(prices) != len(names):
        raise BadPrices("this is not a dict with just the prices that there are")
    if not all([is_one_of(name, names) and is_between(prices[name], 0, 9) for name in prices]):
        raise BadPrices("there is something else among the prices")


def check_priced(keep, plan, prices):
    """Raise the first error that there is: BadKeep, BadPlan, or BadPrices."""
    check_keep(keep)
    check_plan(keep, plan)
    check_prices(prices, PRICED)


def check_asked(keep, plan, prices, wish):
    """Raise the first error that there is: BadKeep, BadPlan, BadPrices, or BadWish."""
    check_priced(keep, plan, prices)
    check_wish(wish)


def cost_of(plan, prices):
    """As cost, of a plan and prices that are known to be such."""
    return sum([prices[kind] for kind in plan.sums]) + (prices["mends"] if plan.mends else 0)


def offers_beside(plan, prices):
    """As offers, of a plan and prices that are known to be such."""
    found = [plan.but("sums", sums).but("mends", mends)
             for sums in all_tuples(KINDS, len(plan.sums)) for mends in (False, True)]
    return sorted(found, key=lambda offer: cost_of(offer, prices))


def key_of(offer):
    """The pair by which an offer is told from all others."""
    return (offer.sums, offer.mends)


def are_failing(keep, found, histories, wish):
    """Whether a dict has a history for exactly these offers, after which the wish is not fulfilled."""
    if len(histories) != len(found) or not all([key_of(offer) in histories for offer in found]):
        return False
    return all([Harmed(histories[key_of(offer)]).shows(keep, offer, wish=wish) for offer in found])
