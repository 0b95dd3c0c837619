"""Radii: how far from its items the answer to a question of a depth may hang on what there is."""

from depthquestions.stores import MOST_COLUMNS, check_between

MOST_DEPTH = 4
MOST_REACH = 40
MOST_NAMES_COUNTED = 4


def reach_of(depth):
    """Returns what radius returns, of a depth that may be greater."""
    reach = 0
    for _ in range(depth):
        reach = 3 * reach + 1
    return reach


def near_reach(level):
    """Returns the distance up to which items are near for a quantifier of a level, which may be greater."""
    return 2 * reach_of(level) + 1


def radius(depth):
    """Returns the radius of the balls on which questions of a depth hang."""
    check_between(depth, 0, MOST_DEPTH)
    return reach_of(depth)


def near_radius(depth):
    """Returns the distance up to which items are near for the outermost quantifier of a question of a depth."""
    check_between(depth, 1, MOST_DEPTH)
    return near_reach(depth - 1)


def most_in_ball(columns, reach):
    """Returns how many items a ball round one item has at most, with so many columns and this radius."""
    check_between(columns, 0, MOST_COLUMNS)
    check_between(reach, 0, MOST_REACH)
    total = 1
    # From the item two links of each column lead on, from each further one all but the link by which it was reached.
    in_ring = 2 * columns
    for _ in range(reach):
        total += in_ring
        in_ring = in_ring * (2 * columns - 1)
    return total


def cut(columns, depth, names, level):
    """Returns the number at which counts of types of a level are cut, for questions of a depth with so many names."""
    check_between(columns, 0, MOST_COLUMNS)
    check_between(depth, 1, MOST_DEPTH)
    check_between(names, 0, MOST_NAMES_COUNTED)
    check_between(level, 0, depth - 1)
    return (names + depth) * most_in_ball(columns, 2 * radius(level) + 1) + 1
