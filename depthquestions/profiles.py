"""Profiles: how many items there are of each type, cut; and answers by types and profiles, without a store."""

from depthquestions.balls import reached
from depthquestions.codes import code_at, is_code, side_by_side
from depthquestions.errors import InvalidList, InvalidPaper, InvalidQuestion
from depthquestions.looking import Sight
from depthquestions.plain import are_names_for, fixed_test, joined_test
from depthquestions.questions import depth_in, is_question_of, level_of, others_of, seen_in
from depthquestions.radii import MOST_DEPTH, MOST_NAMES_COUNTED, cut, near_radius, radius
from depthquestions.stores import (
    check_between, check_second_store, check_signs, check_store, is_ascending, is_whole)
from depthquestions.walks import QUANTIFIERS, folded


def check_counted(depth, names):
    """Raises the error for the first of a depth and a number of names that is none."""
    check_between(depth, 0, MOST_DEPTH)
    check_between(names, 0, MOST_NAMES_COUNTED)


def profile_seen(sight, columns, depth, names):
    """Returns the profile of a store with so many columns as it is seen."""
    found = []
    for level in range(depth):
        most = cut(columns, depth, names, level)
        found.append([(code, min(len(items), most)) for code, items in sight.types_at(level)])
    return found


def profile_of(store, depth, names):
    """Returns the profile of a store that is known to be one."""
    return profile_seen(Sight(store), len(store[2]), depth, names)


def profile(store, depth, names):
    """Returns for each level below a depth the list of its types, each with how many items have it, cut."""
    check_store(store)
    check_counted(depth, names)
    return profile_of(store, depth, names)


def same_profile(one, other, depth, names):
    """Returns whether two stores have the same profile."""
    check_store(one)
    check_second_store(one, other)
    check_counted(depth, names)
    return profile_of(one, depth, names) == profile_of(other, depth, names)


def is_code_of(marks, columns, many, value):
    """Returns whether a value is a code of a row of so many items."""
    return is_code(marks, columns, value) and len(value[0]) == many


def is_counted(marks, columns, value):
    """Returns whether a value is a tuple of a type of single items and of how many items have it."""
    if not isinstance(value, tuple) or len(value) != 2:
        return False
    return is_code_of(marks, columns, 1, value[0]) and is_whole(value[1]) and value[1] >= 1


def are_counted(marks, columns, value):
    """Returns whether a value is a list of unlike types with their numbers of items, in order."""
    if not isinstance(value, list) or not all([is_counted(marks, columns, row) for row in value]):
        return False
    return is_ascending([row[0] for row in value])


def check_typed(marks, columns, question, names, shape, counts):
    """Raises the error for the first wrong argument of holds_by_types."""
    check_signs(marks, columns)
    if not is_question_of(marks, columns, question) or depth_in(seen_in(question)) > MOST_DEPTH:
        raise InvalidQuestion(question)
    if not are_names_for(question, names):
        raise InvalidList(names)
    if not is_code_of(marks, columns, len(names), shape):
        raise InvalidPaper(shape)
    levels = depth_in(seen_in(question))
    if not isinstance(counts, list) or len(counts) != levels:
        raise InvalidPaper(counts)
    if not all([are_counted(marks, columns, level) for level in counts]):
        raise InvalidPaper(counts)


# A scene is what is known of the items to which names are bound: rows as of a code, and a dict of the numbers of the
# items in them. A test is a function of a scene here.


def atom_of_scene(marks, columns, one):
    """Returns the test of a question without parts."""
    if one[0] == "mark":
        mark_at = marks.index(one[1])
        return lambda scene: scene[0][scene[1][one[2]]][0][mark_at] == 1
    if one[0] == "link":
        link_at = 1 + 2 * columns.index(one[1])
        return lambda scene: scene[0][scene[1][one[2]]][link_at] == scene[1][one[3]]
    if one[0] == "same":
        return lambda scene: scene[1][one[1]] == scene[1][one[2]]
    return fixed_test(one[0] == "true")


def scenes_behind(code, level, others, name, counted):
    """Returns the scenes with one more name, for each near item, and for each type of which a far item is left.

    The code is that of the items of the others with the radius of the level above.
    """
    roots, rows = code
    bound = dict(zip(others, roots))
    near = reached(rows, roots, near_radius(level + 1))
    near_counts = {}
    for number in near:
        shape = code_at(rows, (number,), radius(level))
        near_counts[shape] = near_counts.get(shape, 0) + 1
    scenes = [(rows, {**bound, name: number}) for number in near]
    for shape, many in counted:
        if many > near_counts.get(shape, 0):
            # Nothing lies between the ball of a far item and those of the others, as far as the inner question sees.
            # The item itself has the number 0 in its type, so it comes right behind the rows.
            scenes.append((side_by_side(rows, shape[1]), {**bound, name: len(rows)}))
    return scenes


def quantifier_of_scene(counts, one, inner):
    """Returns the test of a quantifier, by that of its inner question. What it tells of a code is kept."""
    level = level_of(one)
    others = others_of(one)
    sought = one[0] == "some"
    kept = {}

    def told_of(code):
        for scene in scenes_behind(code, level, others, one[1], counts[level]):
            if inner(scene) == sought:
                return sought
        return not sought

    def test(scene):
        rows, bound = scene
        code = code_at(rows, [bound[name] for name in others], radius(level + 1))
        if code not in kept:
            kept[code] = told_of(code)
        return kept[code]
    return test


def part_of_scene(marks, columns, counts, one, inner):
    """Returns the test of a question, by the tests of its parts."""
    if one[0] in QUANTIFIERS:
        return quantifier_of_scene(counts, one, inner[0])
    return joined_test(one[0], inner) if inner else atom_of_scene(marks, columns, one)


def holds_by_types(marks, columns, question, names, shape, counts):
    """Returns whether a question holds in all stores with a profile, for rows of items of a type."""
    check_typed(marks, columns, question, names, shape, counts)
    test = folded(question, lambda one, _, inner: part_of_scene(marks, columns, counts, one, inner))
    return test((shape[1], dict(zip(names, shape[0]))))
