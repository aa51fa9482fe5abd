"""Deeds: writes, landings, wear and rounds; which are possible, what is behind them, and which states come about."""

from quietharm.checks import is_between, is_group, is_one_of
from quietharm.errors import BadDeed, BadHistory, NotNow
from quietharm.rounds import swept
from quietharm.states import ages_left, cell_on, check_state, first_state, shelves_left
from quietharm.ways import explored

WORDS = ("done", "astray", "late", "lost", "torn")
# The age of a new write until ages are numbered anew: it is newer than what was the last one.
NEW = -1


def deeds(keep, plan, state):
    """All possible deeds, in order."""
    check_state(keep, plan, state)
    return possible_deeds(keep, state)


def after(keep, plan, state, deed):
    """The state behind a deed."""
    check_state(keep, plan, state)
    if not is_deed(keep, deed):
        raise BadDeed("this is not a deed of the keep")
    if not is_possible(keep, state, deed):
        raise NotNow("this deed is not possible in the state")
    return behind(plan, state, deed)


def trace(keep, plan, history):
    """All states of a history, the first one included."""
    start = first_state(keep, plan)
    if not isinstance(history, (list, tuple)):
        raise BadHistory(None)
    states = states_along(keep, plan, start, history)
    if len(states) <= len(history):
        raise BadHistory(len(states) - 1)
    return states


def harms_in(keep, plan, history):
    """The number of harms in a history."""
    trace(keep, plan, history)
    return sum([harms_of(deed) for deed in history])


def all_states(keep, plan):
    """All states that come about, each once."""
    return list(all_steps(keep, plan))


def all_steps(keep, plan):
    """A dict from each state that comes about, the first one first, to its steps."""
    return explored(first_state(keep, plan), lambda state: steps(keep, plan, state))


def steps(keep, plan, state):
    """All pairs of a possible deed and the state behind it, in the order of the deeds."""
    return [(deed, behind(plan, state, deed)) for deed in possible_deeds(keep, state)]


def states_along(keep, plan, start, history):
    """The start, and the state behind each deed in turn, up to the first thing that is no deed or not possible."""
    states = [start]
    for deed in history:
        if not is_deed(keep, deed) or not is_possible(keep, states[-1], deed):
            return states
        states.append(behind(plan, states[-1], deed))
    return states


def last_state(keep, plan, history):
    """The state after a history, None if this list or tuple is no history."""
    states = states_along(keep, plan, first_state(keep, plan), history)
    return states[-1] if len(states) > len(history) else None


def is_deed(keep, thing):
    """Whether something is a deed of the keep, possible or not."""
    if not isinstance(thing, tuple) or not thing:
        return False
    if is_one_of(thing[0], ("write",)):
        return len(thing) == 3 and is_between(thing[1], 0, keep.blocks - 1) and are_words(keep, thing[2])
    if is_one_of(thing[0], ("land",)):
        return len(thing) == 3 and is_place(keep, thing[1], thing[2])
    if is_one_of(thing[0], ("wear",)):
        return len(thing) == 4 and is_place(keep, thing[1], thing[2]) and is_between(thing[3], 0, 1)
    return is_one_of(thing[0], ("round",)) and len(thing) == 1


def is_place(keep, shelf, block):
    """Whether both are the numbers of a shelf and a block of the keep."""
    return is_between(shelf, 0, keep.shelves - 1) and is_between(block, 0, keep.blocks - 1)


def are_words(keep, thing):
    """Whether something is a tuple with a word for a write on each shelf."""
    return is_group(thing, keep.shelves) and all([is_one_of(word, known_words(keep)) for word in thing])


def known_words(keep):
    """What a write can come to on a shelf, in order."""
    return [word for word in WORDS if word == "done" or word in keep]


def possible_deeds(keep, state):
    """As deeds, of a state that is known to be one."""
    words = possible_words(keep, state)
    writes = [("write", block, told) for block in range(keep.blocks) for told in words]
    places = [(shelf, block) for shelf in shelves_left(state) for block in range(keep.blocks)]
    others = [("land", shelf, block) for shelf, block in places]
    others.extend([("wear", shelf, block, half) for shelf, block in places for half in (0, 1)])
    others.append(("round",))
    return writes + [deed for deed in others if is_possible(keep, state, deed)]


def possible_words(keep, state):
    """All tuples of words with which a write is possible in a state, in order."""
    known = known_words(keep)
    rows = [()]
    for shelf in state[0]:
        words = ["done"] if shelf is None else known
        longer = [row + (word,) for row in rows for word in words]
        rows = [row for row in longer if len(harmful(row)) <= keep.most - state[1]]
    return rows


def is_possible(keep, state, deed):
    """Whether a deed of the keep is possible in a state."""
    if deed[0] == "round":
        return True
    if harms_of(deed) > keep.most - state[1]:
        return False
    if deed[0] == "write":
        return all([word == "done" for shelf, word in zip(state[0], deed[2]) if shelf is None])
    if state[0][deed[1]] is None:
        return False
    cell = cell_on(state, deed[1], deed[2])
    if deed[0] == "land":
        return cell[3] is not None
    return "worn" in keep and cell[deed[3]] is not None


def harms_of(deed):
    """The number of harms in a deed."""
    return len(harm_words(deed))


def harm_words(deed):
    """The words of all harms in a deed, some perhaps more than once."""
    if deed[0] == "write":
        return harmful(deed[2])
    return ["worn"] if deed[0] == "wear" else []


def harmful(words):
    """The words of a write that tell of a harm."""
    return [word for word in words if word != "done"]


def behind(plan, state, deed):
    """As after, of a state and a possible deed that are known to be such."""
    last = [0] * len(plan.sums)
    if deed[0] == "write":
        last[deed[1]] = NEW
        shelves, harms, given_up = written(plan, state, deed)
    elif deed[0] == "land":
        shelves, harms, given_up = landed(plan, state, deed)
    elif deed[0] == "wear":
        shelves, harms, given_up = worn(state, deed)
    else:
        shelves, harms, given_up = swept(plan, state)
    return (numbered(shelves, last), harms, given_up)


def written(plan, state, deed):
    """The state behind a write, but that ages are not numbered anew."""
    shelves, harms, given_up = state
    block, words = deed[1:]
    shelves = tuple([None if shelf is None else written_shelf(plan, shelf, block, word)
                     for shelf, word in zip(shelves, words)])
    return (shelves, harms + len(harmful(words)), replaced(given_up, block, False))


def written_shelf(plan, shelf, block, word):
    """A shelf behind a write of a block that comes to this word on it."""
    first, second, note, late = shelf[0][block]
    new = (block, NEW)
    if word == "done":
        return with_cell(shelf, block, whole_cell(plan, new, late))
    if word == "torn":
        return with_cell(shelf, block, (new, second, note, late))
    if word == "late":
        return with_cell(shelf, block, (first, second, note, NEW))
    if word == "astray":
        other = 1 - block
        return with_cell(shelf, other, (new, new) + shelf[0][other][2:])
    return shelf


def landed(plan, state, deed):
    """The state behind a landing, but that ages are not numbered anew."""
    shelves, harms, given_up = state
    number, block = deed[1:]
    late = cell_on(state, number, block)[3]
    shelf = with_cell(shelves[number], block, whole_cell(plan, (block, late), None))
    return (replaced(shelves, number, shelf), harms, given_up)


def worn(state, deed):
    """The state behind a wear, but that ages are not numbered anew."""
    shelves, harms, given_up = state
    number, block, half = deed[1:]
    shelf = with_cell(shelves[number], block, replaced(cell_on(state, number, block), half, None))
    return (replaced(shelves, number, shelf), harms + 1, given_up)


def whole_cell(plan, half, late):
    """The cell of a copy of which both halves, and the note if there is one, come of the write of this half."""
    block, age = half
    return (half, half, age if plan.sums[block] == "noted" else None, late)


def with_cell(shelf, block, cell):
    """A shelf with another cell of a block."""
    cells, tally = shelf
    return (replaced(cells, block, cell), tally)


def replaced(things, at, thing):
    """A tuple with another thing at a place."""
    return things[:at] + (thing,) + things[at + 1:]


def numbered(shelves, last):
    """The shelves with ages numbered anew: for each block, 0 for the age of its last write, then up for the older."""
    numbers = []
    halves = {}
    for block in range(len(last)):
        ages = sorted(set([last[block]] + ages_left(shelves, block)))
        numbers.append({age: number for number, age in enumerate(ages)})
        halves.update({(block, age): (block, number) for number, age in enumerate(ages)})
    return tuple([None if shelf is None else numbered_shelf(numbers, halves, shelf) for shelf in shelves])


def numbered_shelf(numbers, halves, shelf):
    """A shelf with other ages for each block, and so with other halves."""
    cells, tally = shelf
    # None stands in neither dict, and is therefore got back: what is worn, or is no age, stays as it is.
    return (tuple([(halves.get(first), halves.get(second), ages.get(note), ages.get(late))
                   for ages, (first, second, note, late) in zip(numbers, cells)]), tally)
