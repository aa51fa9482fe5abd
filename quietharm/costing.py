"""What harms cost: the least price of a history after which a wish is not fulfilled."""

from quietharm.checks import is_integer
from quietharm.deeds import all_steps, harm_words, last_state, steps, trace
from quietharm.judging import Safe, check_wish, first_failing, is_fulfilled
from quietharm.keeps import check_keep, check_plan
from quietharm.prices import check_prices
from quietharm.states import are_states, first_state
from quietharm.ways import cheapest_ways, history_to


class Costly:
    """The least price, a history that costs it, and floors: what harms cost at least from each state on."""

    def __init__(self, price, history, floors):
        self.price = price
        self.history = tuple(history)
        self.floors = {state: floors[state] for state in floors}

    def __eq__(self, other):
        return (isinstance(other, Costly) and self.price == other.price and self.history == other.history
                and self.floors == other.floors)

    def shows(self, keep, plan, prices, *, wish="true"):
        """Whether the history costs the price, the wish is not fulfilled after it, and the floors show no less does."""
        check_asked(keep, plan, prices, wish)
        state = last_state(keep, plan, self.history)
        if state is None or is_fulfilled(plan, state, wish) or total_of(prices, self.history) != self.price:
            return False
        first = first_state(keep, plan)
        return (first in self.floors and self.floors[first] == self.price
                and are_floors(keep, plan, prices, wish, self.floors))


def price_of(keep, plan, prices, history):
    """What a history costs."""
    check_priced(keep, plan, prices)
    trace(keep, plan, history)
    return total_of(prices, history)


def costing(keep, plan, prices, *, wish="true"):
    """A Costly if the wish is not fulfilled after some history, otherwise a Safe."""
    check_asked(keep, plan, prices, wish)
    ways = cheapest_ways(all_steps(keep, plan), lambda deed: deed_price(prices, deed))
    state = first_failing(plan, ways, wish)
    if state is None:
        return Safe(list(ways))
    price = ways[state][0]
    # What comes to a state for less than the price has at least the rest of it still to pay.
    return Costly(price, history_to(ways, state), {told: max(0, price - ways[told][0]) for told in ways})


def least_price(keep, plan, prices, *, wish="true"):
    """The price of a Costly, None if there is a Safe."""
    found = costing(keep, plan, prices, wish=wish)
    return None if isinstance(found, Safe) else found.price


def check_priced(keep, plan, prices):
    """Raise the first error that there is: BadKeep, BadPlan, or BadPrices."""
    check_keep(keep)
    check_plan(keep, plan)
    check_prices(prices, keep.harms)


def check_asked(keep, plan, prices, wish):
    """Raise the first error that there is: BadKeep, BadPlan, BadPrices, or BadWish."""
    check_priced(keep, plan, prices)
    check_wish(wish)


def deed_price(prices, deed):
    """What the harms of a deed cost."""
    return sum([prices[word] for word in harm_words(deed)])


def total_of(prices, history):
    """As price_of, of a history and prices that are known to be such."""
    return sum([deed_price(prices, deed) for deed in history])


def are_floors(keep, plan, prices, wish, floors):
    """Whether all states and integers in a dict are as floors are, but for that of the first state."""
    if not are_states(keep, plan, list(floors)):
        return False
    if not all([is_integer(floor) and floor >= 0 for floor in floors.values()]):
        return False
    for state in floors:
        if floors[state] > 0 and not is_fulfilled(plan, state, wish):
            return False
        if not all([later in floors and floors[later] + deed_price(prices, deed) >= floors[state]
                    for deed, later in steps(keep, plan, state)]):
            return False
    return True
