"""Promises 9 to 16 written once more after their words, by looking over all that comes about, however long it takes."""

import itertools

from builders import KINDS
from model import (after_by_the_words, deeds_by_the_words, harms_by_the_words, look_by_the_words, right_by_the_words,
                   start_by_the_words, wishes_by_the_words)

from quietharm.keeps import Keep, Plan

NEVER = 10 ** 6


def graph(start, ahead, most=400):
    """A dict from all things that come about to lists of deeds with what is behind; None if there are too many."""
    found, level = {}, [start]
    known = {start}
    while level:
        for thing in level:
            found[thing] = ahead(thing)
        level = list(dict.fromkeys(later for thing in level for deed, later in found[thing] if later not in known))
        known.update(level)
        if len(known) > most:
            return None
    return found


def graph_by_the_words(keep, plan, most=400):
    return graph(start_by_the_words(keep, plan), lambda told: [(deed, after_by_the_words(plan, told, deed))
                                                               for deed in deeds_by_the_words(keep, told)], most)


def least_totals(found, price):
    """The least that deeds on the way cost, for each thing to which there is a way; price is None for no way."""
    start = next(iter(found))
    totals, changed = {start: 0}, True
    while changed:
        changed = False
        for thing in found:
            for deed, later in found[thing] if thing in totals else []:
                paid = price(deed)
                if paid is not None and totals[thing] + paid < totals.get(later, NEVER):
                    totals[later], changed = totals[thing] + paid, True
    return totals


def failing(plan, states, wish):
    return [told for told in states if wish not in wishes_by_the_words(plan, told)]


def cost_by_the_words(plan, prices):
    return sum(prices[kind] for kind in plan.sums) + plan.mends * prices["mends"]


def offers_by_the_words(plan, prices):
    """Promise 9: all offers, put one by one behind those that come before them."""
    row = []
    for mends, sums in itertools.product((True, False), itertools.product(KINDS, repeat=len(plan.sums))):
        offer = Plan(sums, plan.order, choice=plan.choice, mends=mends, limit=plan.limit)
        row.append((cost_by_the_words(offer, prices), [KINDS.index(kind) for kind in sums], mends, len(row), offer))
    return [place[-1] for place in sorted(row)]


def cheapest_by_the_words(keep, plan, prices, wish):
    """The least cost, None if there is none, and the keys of all offers that are known to fail; None if too large."""
    keys = []
    for offer in offers_by_the_words(plan, prices):
        found = graph_by_the_words(keep, offer)
        if found is None:
            return None
        if not failing(offer, found, wish):
            least = cost_by_the_words(offer, prices)
            return least, [key for key, paid in keys if paid < least]
        keys.append(((offer.sums, offer.mends), cost_by_the_words(offer, prices)))
    return None, [key for key, paid in keys]


def words_by_the_words(plan, told):
    """Promise 10: the words of the looks at all blocks."""
    looks = [look_by_the_words(plan, told, block)[1] for block in range(len(plan.sums))]
    return ["none" if look is None else "right" if look == ((block, 0),) * 2 else "wrong"
            for block, look in enumerate(looks)]


def pairs_by_the_words(keep, one, other, most=400):
    """All pairs that come about by histories that are possible with both, with what is behind; None if too many."""
    def ahead(pair):
        both = [deed for deed in deeds_by_the_words(keep, pair[0]) if deed in deeds_by_the_words(keep, pair[1])]
        return [(deed, (after_by_the_words(one, pair[0], deed), after_by_the_words(other, pair[1], deed)))
                for deed in both]
    return graph((start_by_the_words(keep, one), start_by_the_words(keep, other)), ahead, most)


def parted_by_the_words(one, other, pairs):
    """The least number of deeds to a pair in which the words differ, None if there is none."""
    depths = least_totals(pairs, lambda deed: 1)
    bad = [pair for pair in pairs if words_by_the_words(one, pair[0]) != words_by_the_words(other, pair[1])]
    return min([depths[pair] for pair in bad], default=None)


def parts_by_the_words(things):
    """All ascending tuples of some of the things, by their lengths, then as tuples."""
    return [part for size in range(len(things) + 1) for part in itertools.combinations(sorted(things), size)]


def dangers_by_the_words(keep, plan, wish):
    """Promise 11: the least dangerous sets, and the greatest safe ones."""
    verdicts = {}
    for part in parts_by_the_words(keep.harms):
        found = graph_by_the_words(Keep(keep.shelves, keep.blocks, part, most=keep.most), plan)
        verdicts[part] = bool(failing(plan, found, wish))
    bad = [part for part in verdicts if verdicts[part]
           and not any(verdicts[other] and set(other) < set(part) for other in verdicts)]
    good = [part for part in verdicts if not verdicts[part]
            and not any(not verdicts[other] and set(other) > set(part) for other in verdicts)]
    return bad, good


def outs_by_the_words(keep, states):
    """Promise 14: the tuples of the shelves that were put out, in order."""
    out = {tuple(at for at, shelf in enumerate(told[0]) if shelf is None) for told in states}
    return [part for part in parts_by_the_words(range(keep.shelves)) if part in out]


def harms_shelf(deed, shelf):
    """Promise 15: whether a deed harms the shelf."""
    return deed[0] == "wear" and deed[1] == shelf or deed[0] == "write" and deed[2][shelf] != "done"


def wrong_by_the_words(told, shelf, kind):
    if told[0][shelf] is None:
        return kind == "out"
    return kind == "spoilt" and any(shelf not in right_by_the_words(told, block) for block in range(len(told[2])))


def fewest_by_the_words(found, shelf, kind):
    """The fewest harms of a history that wrongs the shelf, None if there is none."""
    totals = least_totals(found, lambda deed: None if harms_shelf(deed, shelf) else harms_by_the_words(deed))
    return min([paid for told, paid in totals.items() if wrong_by_the_words(told, shelf, kind)], default=None)


def price_by_the_words(prices, deed):
    """Promise 16: what a deed costs."""
    if deed[0] == "write":
        return sum(prices[word] for word in deed[2] if word != "done")
    return prices["worn"] if deed[0] == "wear" else 0


def least_price_by_the_words(plan, found, prices, wish):
    totals = least_totals(found, lambda deed: price_by_the_words(prices, deed))
    return min([totals[told] for told in failing(plan, found, wish)], default=None)
