"""Dangers: with which sets of harms alone a wish is not always fulfilled, and with which it is."""

from quietharm.deeds import all_steps, harm_words
from quietharm.groups import all_parts
from quietharm.judging import Harmed, Safe, check_question, first_failing
from quietharm.keeps import Keep
from quietharm.ways import allowed, history_to, shortest_ways


class Dangers:
    """Histories for the least dangerous sets of harms, and states for the greatest safe ones."""

    def __init__(self, bad, good):
        self.bad = {harms: tuple(bad[harms]) for harms in bad}
        self.good = {harms: list(good[harms]) for harms in good}

    def __eq__(self, other):
        return isinstance(other, Dangers) and self.bad == other.bad and self.good == other.good

    def shows(self, keep, plan, *, wish="true"):
        """Whether both dicts have just the sets that they should, with histories and states that show it."""
        check_question(keep, plan, wish)
        sets = all_parts(keep.harms)
        dangerous = [harms for harms in sets if any([is_part(told, harms) for told in self.bad])]
        safe = [harms for harms in sets if harms not in dangerous]
        # Each set has one of bad as a part, or is a part of one of good; so if the evidence holds, none is left out.
        return (has_just(self.bad, least(dangerous)) and has_just(self.good, greatest(safe))
                and all([Harmed(self.bad[harms]).shows(with_just(keep, harms), plan, wish=wish)
                         for harms in self.bad])
                and all([Safe(self.good[harms]).shows(with_just(keep, harms), plan, wish=wish)
                         for harms in self.good]))


def dangers(keep, plan, *, wish="true"):
    """The Dangers of a keep with a plan."""
    check_question(keep, plan, wish)
    found = all_steps(keep, plan)
    bad = {}
    good = {}
    for harms in all_parts(keep.harms):
        if not any([is_part(told, harms) for told in bad]):
            ways = ways_with(found, harms)
            state = first_failing(plan, ways, wish)
            if state is None:
                good[harms] = list(ways)
            else:
                bad[harms] = history_to(ways, state)
    return Dangers(bad, {harms: good[harms] for harms in greatest(list(good))})


def least_dangers(keep, plan, *, wish="true"):
    """The dangerous sets of which no other part is dangerous, in order."""
    return list(dangers(keep, plan, wish=wish).bad)


def greatest_safe(keep, plan, *, wish="true"):
    """The safe sets that are no part of another safe one, in order."""
    return list(dangers(keep, plan, wish=wish).good)


def ways_with(found, harms):
    """A way of the fewest deeds to each state that comes about with these harms alone."""
    return shortest_ways(allowed(found, lambda deed: is_part(harm_words(deed), harms)))


def with_just(keep, harms):
    """The keep with these harms alone."""
    return Keep(keep.shelves, keep.blocks, harms, most=keep.most)


def is_part(words, harms):
    """Whether all of the words are among the harms."""
    return all([word in harms for word in words])


def least(sets):
    """Those of the sets of which no other one is a part."""
    return [harms for harms in sets if not any([is_part(other, harms) for other in sets if other != harms])]


def greatest(sets):
    """Those of the sets that are no part of another one."""
    return [harms for harms in sets if not any([is_part(harms, other) for other in sets if other != harms])]


def has_just(told, sets):
    """Whether a dict has exactly these sets as its keys, in any order."""
    return len(told) == len(sets) and all([harms in told for harms in sets])
