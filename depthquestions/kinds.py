"""Kinds of rows of items: what a row says without quantifiers, and to a depth."""

from depthquestions.balls import table_of
from depthquestions.errors import Unlike
from depthquestions.radii import MOST_DEPTH
from depthquestions.stores import check_between, check_row, check_second_store, check_store


def places_of(row, item):
    """Returns the tuple of the places of a row at which an item stands."""
    return tuple([place for place, other in enumerate(row) if other == item])


def atoms_at(table, columns, row):
    """Returns what a row of items of a table says without quantifiers, with so many columns."""
    firsts = [row.index(item) for item in row]
    marks = [table[item][0] for item in row]
    links = [tuple([places_of(row, table[item][1 + 2 * at]) for item in row]) for at in range(columns)]
    return (tuple(firsts), tuple(marks), tuple(links))


def kind_at(table, columns, row, depth):
    """Returns the kind of a row of items of a table to a depth, with so many columns."""
    said = atoms_at(table, columns, row)
    if depth == 0:
        return (said, ())
    longer = sorted([kind_at(table, columns, (*row, item), depth - 1) for item in table])
    # Kinds are nested too deep for the members of a set, so equal ones are left out where they stand side by side.
    unlike = [other for at, other in enumerate(longer) if at == 0 or other != longer[at - 1]]
    return (said, tuple(unlike))


def atoms(store, row):
    """Returns what a row says without quantifiers: where its items stand first, their marks, and their links."""
    check_store(store)
    check_row(store, row)
    return atoms_at(table_of(store), len(store[2]), row)


def kind(store, row, depth):
    """Returns the kind of a row to a depth."""
    check_store(store)
    check_row(store, row)
    check_between(depth, 0, MOST_DEPTH)
    return kind_at(table_of(store), len(store[2]), row, depth)


def check_both(one, row, other, second):
    """Raises the error for the first wrong argument of two stores with rows."""
    check_store(one)
    check_row(one, row)
    check_second_store(one, other)
    check_row(other, second)
    if len(row) != len(second):
        raise Unlike(second)


def are_of_one_kind(one, row, other, second, depth):
    """Returns whether two stores with rows, which are known to be right, are alike to a depth."""
    columns = len(one[2])
    return kind_at(table_of(one), columns, row, depth) == kind_at(table_of(other), columns, second, depth)


def alike(one, row, other, second, depth):
    """Returns whether two stores with rows are alike to a depth."""
    check_both(one, row, other, second)
    check_between(depth, 0, MOST_DEPTH)
    return are_of_one_kind(one, row, other, second, depth)


def least_depth(one, row, other, second):
    """Returns the least depth to which two stores with rows are not alike, None if they are alike to all depths."""
    check_both(one, row, other, second)
    for depth in range(MOST_DEPTH + 1):
        if not are_of_one_kind(one, row, other, second, depth):
            return depth
    return None
