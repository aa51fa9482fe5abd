"""Promises 4 to 8 written once more after their words, in another way than the program does it.

Each write has a number of its own here; only `as_state` turns these into ages.
"""

import itertools

WORDS = ("done", "astray", "late", "lost", "torn")
WISHES = ("true", "kept", "left", "open")
SHAPES = ("old", "strange", "torn", "worn")


def look_by_the_words(plan, told, block):
    """Promise 4: the shelves whose copies pass, and the halves that are taken."""
    shelves, harms, given_up = told
    passed = []
    for number, shelf in enumerate(shelves):
        if shelf is None:
            continue
        first, second, note, late = shelf[0][block]
        later = itertools.chain(range(number + 1, len(shelves)), range(number + 1))
        note = next(shelves[at][0][block][2] for at in later if shelves[at] is not None)
        one_write = first is not None and second is not None and first == second
        tests = {"bare": True, "whole": one_write, "named": one_write and first[0] == block,
                 "noted": one_write and first == (block, note)}
        if tests[plan.sums[block]]:
            passed.append(number)
    places = [shelf for shelf in plan.order if shelf in passed]
    if given_up[block] or not places:
        return passed, None
    halves = {shelf: shelves[shelf][0][block][:2] for shelf in places}
    scores = {shelf: 0 for shelf in places}
    if plan.choice == "newest":
        scores = {shelf: -pair[0][1] if pair[0] and pair[0][0] == block else -99 for shelf, pair in halves.items()}
    if plan.choice == "most":
        scores = {shelf: list(halves.values()).count(pair) for shelf, pair in halves.items()}
    best = [shelf for shelf in places if scores[shelf] == max(scores.values())]
    return passed, halves[best[0]]


class Store:
    """A state that can be changed: a write is a pair of its block and a number, the greater the newer."""

    def __init__(self, plan, told):
        self.plan, self.told = plan, told
        self.cells, self.tallies = {}, {}
        for at, shelf in enumerate(told[0]):
            if shelf is not None:
                self.tallies[at] = shelf[1]
                for block, (first, second, note, late) in enumerate(shelf[0]):
                    self.cells[at, block] = [first and (first[0], -first[1]), second and (second[0], -second[1]),
                                             None if note is None else -note, None if late is None else -late]
        self.last = [0 for kind in plan.sums]
        self.harms, self.given_up = told[1], list(told[2])

    def as_state(self):
        ages = []
        for block in range(len(self.last)):
            left = [half[1] for cell in self.cells.values() for half in cell[:2] if half and half[0] == block]
            left += [told for (at, own), cell in self.cells.items() if own == block for told in cell[2:]
                     if told is not None]
            older = sorted(set(left) - {self.last[block]}, reverse=True)
            ages.append({self.last[block]: 0, **{number: age for age, number in enumerate(older, 1)}})
        shelves = []
        for at in range(len(self.told[0])):
            cells = tuple((first and (first[0], ages[first[0]][first[1]]), second and (second[0],
                           ages[second[0]][second[1]]), ages[block].get(note), ages[block].get(late))
                          for (shelf, block), (first, second, note, late) in sorted(self.cells.items(), key=place)
                          if shelf == at)
            shelves.append((cells, self.tallies[at]) if at in self.tallies else None)
        return (tuple(shelves), self.harms, tuple(self.given_up))

    def come(self, at, block, write):
        """Both halves of a copy, and its note, come of a write."""
        self.cells[at, block][:2] = [write, write]
        if self.plan.sums[block] == "noted":
            self.cells[at, block][2] = write[1]

    def write(self, block, words):
        self.last[block] += 1
        self.given_up[block] = False
        self.harms += sum(word != "done" for word in words)
        new = (block, self.last[block])
        for at in self.tallies:
            if words[at] == "done":
                self.come(at, block, new)
            elif words[at] == "torn":
                self.cells[at, block][0] = new
            elif words[at] == "astray":
                self.cells[at, 1 - block][:2] = [new, new]
            elif words[at] == "late":
                self.cells[at, block][3] = new[1]

    def land(self, at, block):
        self.come(at, block, (block, self.cells[at, block][3]))
        self.cells[at, block][3] = None

    def wear(self, at, block, half):
        self.cells[at, block][half] = None
        self.harms += 1

    def round(self):
        for block in range(len(self.last)):
            taken = look_by_the_words(self.plan, self.told, block)[1]
            self.given_up[block] = taken is None
            if taken is not None:
                self.mend(block, [half and (half[0], -half[1]) for half in taken])
        for at in reversed(self.plan.order):
            if len(self.tallies) > 1 and at in self.tallies and self.tallies[at] == self.plan.limit:
                del self.tallies[at]
                self.cells = {key: cell for key, cell in self.cells.items() if key[0] != at}
        for cell in self.cells.values():
            cell[3] = None
        self.harms = 0

    def mend(self, block, taken):
        for at in self.tallies:
            if self.cells[at, block][:2] != taken:
                if self.plan.limit is not None:
                    self.tallies[at] = min(self.plan.limit, self.tallies[at] + 1)
                if self.plan.mends:
                    self.cells[at, block][:2] = taken
            if self.plan.mends and self.plan.sums[block] == "noted":
                self.cells[at, block][2] = taken[0][1]


def place(pair):
    return pair[0]


def after_by_the_words(plan, told, deed):
    store = Store(plan, told)
    getattr(store, deed[0])(*deed[1:])
    return store.as_state()


def all_deeds(keep):
    """All deeds of the keep, possible somewhere or not, in order."""
    words = [word for word in WORDS if word == "done" or word in keep.harms]
    places = list(itertools.product(range(keep.shelves), range(keep.blocks)))
    found = [("write", block, told) for block in range(keep.blocks)
             for told in itertools.product(words, repeat=keep.shelves)]
    found += [("land", *at) for at in places] + [("wear", *at, half) for at in places for half in (0, 1)]
    return found + [("round",)]


def harms_by_the_words(deed):
    if deed[0] == "write":
        return sum(word != "done" for word in deed[2])
    return int(deed[0] == "wear")


def can_be(keep, told, deed):
    """Promise 5: whether a deed is possible."""
    shelves, harms, given_up = told
    if harms + harms_by_the_words(deed) > keep.most:
        return deed[0] in ("round", "land") and (deed[0] == "round" or can_land(shelves, deed))
    if deed[0] == "write":
        return all(word == "done" for word, shelf in zip(deed[2], shelves) if shelf is None)
    if deed[0] == "land":
        return can_land(shelves, deed)
    if deed[0] == "wear":
        shelf = shelves[deed[1]]
        return "worn" in keep.harms and shelf is not None and shelf[0][deed[2]][deed[3]] is not None
    return True


def can_land(shelves, deed):
    return shelves[deed[1]] is not None and shelves[deed[1]][0][deed[2]][3] is not None


def deeds_by_the_words(keep, told):
    return [deed for deed in all_deeds(keep) if can_be(keep, told, deed)]


def right_by_the_words(told, block):
    return [at for at, shelf in enumerate(told[0]) if shelf is not None and shelf[0][block][:2] == ((block, 0),) * 2]


def wishes_by_the_words(plan, told):
    """Promise 7: the wishes that are fulfilled in a state."""
    blocks = range(len(plan.sums))
    looks = [look_by_the_words(plan, told, block)[1] for block in blocks]
    rights = [right_by_the_words(told, block) for block in blocks]
    mended = Store(plan, told)
    for block in blocks:
        if looks[block] is not None:
            mended.mend(block, [half and (half[0], -half[1]) for half in looks[block]])
    tests = {"true": all(look in (None, ((block, 0),) * 2) for block, look in enumerate(looks)),
             "kept": all(mended.cells[at, block][:2] == [(block, 0)] * 2 for block in blocks for at in rights[block]),
             "left": all(rights), "open": None not in looks}
    return [wish for wish in WISHES if tests[wish]]


def start_by_the_words(keep, plan):
    cells = tuple(((block, 0), (block, 0), 0 if kind == "noted" else None, None)
                  for block, kind in enumerate(plan.sums))
    return (((cells, 0),) * keep.shelves, 0, (False,) * keep.blocks)


def reach_by_the_words(keep, plan, most=400):
    """All states that come about, with the least numbers of deeds and of harms; None if there are more than so many."""
    start = start_by_the_words(keep, plan)
    found, level, ahead = {start: 0}, [start], {}
    while level:
        later = []
        for told in level:
            ahead[told] = [(harms_by_the_words(deed), after_by_the_words(plan, told, deed))
                           for deed in deeds_by_the_words(keep, told)]
            for harms, state in ahead[told]:
                if state not in found:
                    found[state] = found[told] + 1
                    later.append(state)
        if len(found) > most:
            return None
        level = later
    harms_to, changed = {start: 0}, True
    while changed:
        changed = False
        for told in found:
            for harms, state in ahead[told] if told in harms_to else []:
                if harms_to[told] + harms < harms_to.get(state, 10 ** 6):
                    harms_to[state], changed = harms_to[told] + harms, True
    return {state: (found[state], harms_to[state]) for state in found}


def closed(keep, plan, states):
    """The states, and all to which possible deeds lead from them."""
    waiting, found = list(states), list(states)
    while waiting:
        told = waiting.pop()
        for deed in deeds_by_the_words(keep, told):
            later = after_by_the_words(plan, told, deed)
            if later not in found:
                found.append(later)
                waiting.append(later)
    return found


def shapes_by_the_words(told, block):
    """Promise 8: the shape of the copy on each shelf, None if it is right or put out."""
    found = []
    for shelf in told[0]:
        halves = [] if shelf is None else shelf[0][block][:2]
        if shelf is None or halves == ((block, 0),) * 2:
            found.append(None)
        elif None in halves:
            found.append("worn")
        elif halves[0] != halves[1]:
            found.append("torn")
        else:
            found.append("old" if halves[0][0] == block else "strange")
    return found


def seen_by_the_words(plan, told, block):
    """Promise 8: the shapes that are seen, and those that are unseen, in a state."""
    passed = look_by_the_words(plan, told, block)[0]
    told_shapes = list(enumerate(shapes_by_the_words(told, block)))
    return [sorted({shape for at, shape in told_shapes if shape and (at in passed) == passes})
            for passes in (False, True)]
