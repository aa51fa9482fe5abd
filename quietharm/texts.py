"""Keeps, plans and histories as texts, and read again."""

from quietharm.deeds import states_along, trace
from quietharm.errors import BadText
from quietharm.groups import all_parts, all_tuples
from quietharm.keeps import CHOICES, KINDS, Keep, Plan, check_keep, check_plan, is_order, possible_harms
from quietharm.states import first_state

NAMES = ("shelves", "blocks", "harms", "most", "sums", "order", "choice", "mends", "limit")
NUMBERS = {"0": 0, "1": 1, "2": 2}


def plan_text(keep, plan):
    """The text of a keep with a plan."""
    check_keep(keep)
    check_plan(keep, plan)
    told = {"shelves": keep.shelves, "blocks": keep.blocks, "harms": keep.harms, "most": keep.most,
            "sums": plan.sums, "order": plan.order, "choice": plan.choice, "mends": plan.mends, "limit": plan.limit}
    return "".join([line_of(name, told[name]) + "\n" for name in NAMES])


def history_text(keep, plan, history):
    """The text of a history."""
    trace(keep, plan, history)
    return "".join([line_of_deed(deed) + "\n" for deed in history])


def read_plan(text):
    """The pair of the keep and the plan of which this is the text."""
    lines, rest = lines_in(text)
    told = {}
    for row, line in enumerate(lines):
        if row == len(NAMES):
            raise BadText(row)
        fitting = [value for value in values_of(NAMES[row], told) if line_of(NAMES[row], value) == line]
        if not fitting:
            raise BadText(row)
        told[NAMES[row]] = fitting[0]
    if len(lines) < len(NAMES) or rest != "":
        raise BadText(len(lines))
    return (Keep(told["shelves"], told["blocks"], told["harms"], most=told["most"]),
            Plan(told["sums"], told["order"], choice=told["choice"], mends=told["mends"], limit=told["limit"]))


def read_history(keep, plan, text):
    """The list of the deeds of the history of which this is the text."""
    start = first_state(keep, plan)
    lines, rest = lines_in(text)
    history = [deed_in(line) for line in lines]
    states = states_along(keep, plan, start, history)
    if len(states) <= len(history):
        raise BadText(len(states) - 1)
    if rest != "":
        raise BadText(len(lines))
    return history


def lines_in(text):
    """The pair of the list of all lines, without their line feeds, and of what follows the last one."""
    if not isinstance(text, str):
        raise BadText(0)
    parts = text.split("\n")
    return (parts[:-1], parts[-1])


def values_of(name, told):
    """All values that the line of this name can have, behind lines with the values that are told."""
    if name == "harms":
        return all_parts(possible_harms(told["blocks"]))
    if name == "sums":
        return all_tuples(KINDS, told["blocks"])
    if name == "order":
        shelves = list(range(told["shelves"]))
        return [order for order in all_tuples(shelves, len(shelves)) if is_order(order)]
    if name == "choice":
        return list(CHOICES)
    if name == "mends":
        return [False, True]
    if name == "limit":
        return [None, 1, 2]
    if name == "most":
        return [0, 1, 2]
    return [1, 2, 3] if name == "shelves" else [1, 2]


def line_of(name, value):
    """The line of this name with a value, without its line feed."""
    values = value if isinstance(value, tuple) else (value,)
    return " ".join([name] + [word_for(part) for part in values])


def word_for(value):
    """The word for a value."""
    if value is None:
        return "none"
    if isinstance(value, bool):
        return "yes" if value else "no"
    return str(value)


def line_of_deed(deed):
    """The line of a deed, without its line feed."""
    items = deed[:2] + deed[2] if deed[0] == "write" else deed
    return " ".join([str(item) for item in items])


def deed_in(line):
    """The deed of which this is the line; what is no deed of any keep if there is none."""
    words = line.split(" ")
    if words[0] == "write" and len(words) > 1:
        return ("write", NUMBERS.get(words[1]), tuple(words[2:]))
    return (words[0],) + tuple([NUMBERS.get(word) for word in words[1:]])
