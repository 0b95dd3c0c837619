"""Looking: each quantifier tries the items near to what is bound, and one far item of each type."""

from depthquestions.balls import reached, table_of
from depthquestions.codes import types_in
from depthquestions.errors import InvalidQuestion
from depthquestions.plain import check_bound, check_question_of, test_by
from depthquestions.questions import depth_in, level_of, others_of, seen_in
from depthquestions.radii import MOST_DEPTH, most_in_ball, near_radius, near_reach, reach_of
from depthquestions.stores import check_between, check_store
from depthquestions.walks import QUANTIFIERS, folded


class Sight:
    """A store as questions look at it; what was found once is kept, as the same items are looked at again and again."""

    def __init__(self, store):
        self.table = table_of(store)
        self.kept_types = {}
        self.kept_numbers = {}
        self.kept_balls = {}
        self.kept_looks = {}

    def types_at(self, level):
        """Returns the list of the types of a level, in order, each with the list of its items, in order."""
        if level not in self.kept_types:
            self.kept_types[level] = types_in(self.table, reach_of(level))
        return self.kept_types[level]

    def numbers_at(self, level):
        """Returns the dict of the number that the type of each item has among those of a level."""
        if level not in self.kept_numbers:
            rows = self.types_at(level)
            self.kept_numbers[level] = {item: at for at, (_, items) in enumerate(rows) for item in items}
        return self.kept_numbers[level]

    def near_to(self, item, level):
        """Returns the dict of the items whose balls with the radius of a level touch the ball of an item."""
        key = (item, level)
        if key not in self.kept_balls:
            self.kept_balls[key] = reached(self.table, (item,), near_reach(level))
        return self.kept_balls[key]

    def looked_at(self, level, told):
        """Returns the dict of the items near to told ones, the list of them, and that of the far items looked at."""
        key = (level, *told)
        if key not in self.kept_looks:
            near = reached(self.table, told, near_reach(level))
            far = [first_outside(near, items) for _, items in self.types_at(level)]
            self.kept_looks[key] = (near, sorted(near), [item for item in far if item is not None])
        return self.kept_looks[key]

    def asked_of(self, one):
        """Returns the function that tells, by what is bound, what looked_at tells for a quantifier."""
        level = level_of(one)
        others = others_of(one)
        return lambda bound: self.looked_at(level, [bound[name] for name in others])

    def all_looks_of(self, one):
        """Returns the function that tells, by what is bound, the list of all items at which a quantifier looks."""
        asked = self.asked_of(one)

        def all_looks(bound):
            _, near, far = asked(bound)
            return near + far
        return all_looks


def first_outside(near, items):
    """Returns the first item of a list that is not near, None if there is none."""
    for item in items:
        if item not in near:
            return item
    return None


def check_depth(store, question):
    """Raises the error for what must be a store or a question of it that is not too deep."""
    check_question_of(store, question)
    if depth_in(seen_in(question)) > MOST_DEPTH:
        raise InvalidQuestion(question)


def check_looked(store, question, binding):
    """Raises the error for the first wrong argument of what answers by looking."""
    check_depth(store, question)
    check_bound(store, question, binding)


def local_holds(store, question, binding):
    """Returns whether a question holds with a binding of its free names, looking at few items."""
    check_looked(store, question, binding)
    sight = Sight(store)
    test = test_by(store, question, sight.all_looks_of)
    return test(dict(binding))


def no_looks(_):
    """Returns how many looks a question without parts takes."""
    return 0


def looks_of_both(one, other):
    """Returns the function that tells the looks of two parts together."""
    return lambda bound: one(bound) + other(bound)


def looks_of_quantifier(looked, name, inner):
    """Returns the function that tells the looks of a quantifier, by what is bound."""
    def counted(bound):
        total = 0
        for item in looked(bound):
            bound[name] = item
            total += 1 + inner(bound)
        return total
    return counted


def looks_of_part(sight, one, inner):
    """Returns the function that tells the looks of a question, by those of its parts."""
    if one[0] in QUANTIFIERS:
        return looks_of_quantifier(sight.all_looks_of(one), one[1], inner[0])
    if one[0] == "not":
        return inner[0]
    if one[0] in ("and", "or"):
        return looks_of_both(inner[0], inner[1])
    return no_looks


def looks(store, question, binding):
    """Returns how many looks it takes to go through everything at which a question looks."""
    check_looked(store, question, binding)
    sight = Sight(store)
    counted = folded(question, lambda one, _, inner: looks_of_part(sight, one, inner))
    return counted(dict(binding))


def how_many_types(store, depth):
    """Returns the list that tells for each level below a depth how many types of single items there are."""
    check_store(store)
    check_between(depth, 0, MOST_DEPTH)
    sight = Sight(store)
    return [len(sight.types_at(level)) for level in range(depth)]


def most_looks_of_part(sight, columns, one, inner):
    """Returns how many looks a question takes at most, by those of its parts, with so many columns."""
    if one[0] not in QUANTIFIERS:
        return sum(inner)
    level = level_of(one)
    most_near = len(others_of(one)) * most_in_ball(columns, near_radius(level + 1))
    return (most_near + len(sight.types_at(level))) * (1 + inner[0])


def most_looks(store, question):
    """Returns how many looks a question takes at most, whatever its free names stand for."""
    check_depth(store, question)
    sight = Sight(store)
    columns = len(store[2])
    return folded(question, lambda one, _, inner: most_looks_of_part(sight, columns, one, inner))
