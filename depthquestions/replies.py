"""Replies: how the second player of the game on two stores answers by types, whatever the size of the stores."""

from depthquestions.balls import reached
from depthquestions.codes import code_at
from depthquestions.errors import InvalidList, Unlike
from depthquestions.looking import Sight, first_outside
from depthquestions.profiles import profile_seen
from depthquestions.radii import MOST_DEPTH, near_reach, reach_of
from depthquestions.stores import check_between, check_item, check_row, check_second_store, check_store

MOST_PICKED = 3


def check_short_row(store, row):
    """Raises the error for what must be a row of at most three items of a store and is none."""
    check_row(store, row)
    if len(row) > MOST_PICKED:
        raise InvalidList(row)


def check_game(one, row, other, second):
    """Raises the error for the first wrong argument of two stores with rows."""
    check_store(one)
    check_short_row(one, row)
    check_second_store(one, other)
    check_short_row(other, second)


class Board:
    """Two stores with rows, as they are seen."""

    def __init__(self, one, row, other, second):
        self.columns = len(one[2])
        self.row = row
        self.second = second
        self.sight = Sight(one)
        self.other_sight = Sight(other)

    def are_rows_alike(self, depth):
        """Returns whether both rows are equally long and have equal codes with the radius of a depth."""
        if len(self.row) != len(self.second):
            return False
        reach = reach_of(depth)
        return code_at(self.sight.table, self.row, reach) == code_at(self.other_sight.table, self.second, reach)

    def are_profiles_alike(self, depth):
        """Returns whether both stores have the same profile for a depth and the length of the row."""
        many = len(self.row)
        profile = profile_seen(self.sight, self.columns, depth, many)
        return profile == profile_seen(self.other_sight, self.columns, depth, many)

    def image_of(self, depth, item):
        """Returns the image of an item of the ball of the row with the radius of a depth."""
        ball = list(reached(self.sight.table, self.row, reach_of(depth)))
        images = list(reached(self.other_sight.table, self.second, reach_of(depth)))
        return images[ball.index(item)]

    def far_like(self, level, item):
        """Returns the least item of the other store that is not near and has the type of an item, of a level."""
        near = reached(self.other_sight.table, self.second, near_reach(level))
        number = self.sight.numbers_at(level)[item]
        # The profiles are equal, so the types of both stores have the same numbers.
        _, items = self.other_sight.types_at(level)[number]
        return first_outside(near, items)


def sure_depth(one, row, other, second, most):
    """Returns the greatest depth up to a most one to which two stores with rows match, None if there is none."""
    check_game(one, row, other, second)
    check_between(most, 0, MOST_DEPTH)
    board = Board(one, row, other, second)
    found = None
    for depth in range(most + 1):
        # What does not match to a depth matches to no greater one.
        if not board.are_rows_alike(depth) or not board.are_profiles_alike(depth):
            return found
        found = depth
    return found


def reply(one, row, other, second, depth, item):
    """Returns the item of the other store with which the second player answers the pick of an item of the one."""
    check_game(one, row, other, second)
    check_between(depth, 1, MOST_DEPTH)
    board = Board(one, row, other, second)
    if not board.are_rows_alike(depth):
        raise Unlike(second)
    if not board.are_profiles_alike(depth):
        raise Unlike(other)
    check_item(one, item)
    if item in reached(board.sight.table, row, near_reach(depth - 1)):
        return board.image_of(depth, item)
    return board.far_like(depth - 1, item)
