"""Balls: what lies near to items, over links in both directions."""

from depthquestions.radii import MOST_REACH
from depthquestions.stores import check_between, check_item, check_row, check_store

NOWHERE = -1


def table_of(store):
    """Returns a dict with a row for each item, like the rows of a code, but with items for their numbers.

    In front of a row are the bits of the marks; behind them, for each column, the item to which a link leads and the
    one from which a link leads, NOWHERE for none.
    """
    _, marks, columns, items, facts = store
    bits = {item: [0 for _ in marks] for item in items}
    ends = {item: [NOWHERE for _ in [*columns, *columns]] for item in items}
    for fact in facts:
        if fact[0] == "mark":
            bits[fact[2]][marks.index(fact[1])] = 1
        else:
            at = 2 * columns.index(fact[1])
            ends[fact[2]][at] = fact[3]
            ends[fact[3]][at + 1] = fact[2]
    return {item: (tuple(bits[item]), *ends[item]) for item in items}


def reached(table, row, radius):
    """Returns a dict of the items of the ball of a row, in the order of the walk, with their distances from the row.

    The table may be the rows of a code as well.
    """
    found = {item: 0 for item in row}
    walk = list(found)
    at = 0
    while at < len(walk) and found[walk[at]] < radius:
        item = walk[at]
        for end in table[item][1:]:
            if end != NOWHERE and end not in found:
                found[end] = found[item] + 1
                walk.append(end)
        at += 1
    return found


def neighbours(store, item):
    """Returns the list of the neighbours of an item, in order."""
    check_store(store)
    check_item(store, item)
    return sorted({end for end in table_of(store)[item][1:] if end != NOWHERE})


def distance(store, one, other):
    """Returns the distance of two items, None if they have none."""
    check_store(store)
    check_item(store, one)
    check_item(store, other)
    return reached(table_of(store), (one,), len(store[3])).get(other)


def groups(store):
    """Returns the list of the lists of the items that have distances from one another, all in order."""
    check_store(store)
    table = table_of(store)
    grouped = {}
    found = []
    for item in store[3]:
        if item not in grouped:
            group = reached(table, (item,), len(store[3]))
            grouped.update(group)
            found.append(sorted(group))
    return found


def check_ball(store, row, radius):
    """Raises the error for the first wrong argument of ball."""
    check_store(store)
    check_row(store, row)
    check_between(radius, 0, MOST_REACH)


def ball(store, row, radius):
    """Returns the list of the items of the ball of a row, in order."""
    check_ball(store, row, radius)
    return sorted(reached(table_of(store), row, radius))
