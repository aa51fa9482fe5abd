"""What comes about step by step: all things that steps lead to, the cheapest ways to them, and what no step leaves.

A step is a pair of a deed and of the thing behind it: a state, or a pair of states.
"""

from quietharm.errors import TooLarge

MOST_THINGS = 400


def explored(start, ahead):
    """A dict from each thing that comes about, the start first, to its steps: the list ahead(thing)."""
    found = {start: []}
    waiting = [start]
    while waiting:
        thing = waiting.pop()
        told = ahead(thing)
        found[thing] = told
        for deed, later in told:
            if later not in found:
                found[later] = []
                waiting.append(later)
        if len(found) > MOST_THINGS:
            raise TooLarge("more comes about than is looked at")
    return found


def allowed(found, allows):
    """What was explored, but only with the steps whose deeds are allowed: those for which allows(deed) holds."""
    return {thing: [(deed, later) for deed, later in found[thing] if allows(deed)] for thing in found}


def cheapest_ways(found, price):
    """A cheapest way to each thing that steps from the first one lead to, the cheaper ones first.

    A deed costs price(deed). A way is a pair of what all deeds cost and of the last step: the thing before and the
    deed, None at the start.
    """
    ways = {}
    waiting = {0: [(list(found)[0], None)]}
    while waiting:
        total = min(list(waiting))
        next_ones = waiting.pop(total)
        for thing, last in next_ones:
            if thing not in ways:
                ways[thing] = (total, last)
                for deed, later in found[thing]:
                    if later not in ways:
                        waiting.setdefault(total + price(deed), []).append((later, (thing, deed)))
    return ways


def shortest_ways(found):
    """As cheapest_ways, where each deed costs 1."""
    return cheapest_ways(found, lambda deed: 1)


def history_to(ways, thing):
    """The list of the deeds on the way to a thing."""
    history = []
    last = ways[thing][1]
    while last is not None:
        thing, deed = last
        history.append(deed)
        last = ways[thing][1]
    return history[::-1]


def never_left(things, start, ahead):
    """Whether the start is among some things, and with each of them all that its steps lead to."""
    known = {thing: True for thing in things}
    if start not in known:
        return False
    for thing in known:
        if not all([later in known for deed, later in ahead(thing)]):
            return False
    return True
