"""All tuples of some things."""


def all_tuples(things, size):
    """All tuples of this size of some things, ordered by their places in these."""
    rows = [()]
    for place in range(size):
        longer = [row + (thing,) for row in rows for thing in things]
        rows = longer
    return rows


def all_parts(things):
    """All tuples with some of the things of an ascending tuple, by their lengths, then as tuples."""
    rows = [()]
    for thing in things:
        longer = [row + (thing,) for row in rows]
        rows = rows + longer
    return sorted(rows, key=lambda row: (len(row), row))
