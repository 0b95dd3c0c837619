"""Asking the same question of many rows: what was told for one row serves for all that are like it."""

from depthquestions.plain import atom_test, joined_test, quantifier_test
from depthquestions.questions import depth_in, level_of, others_of, seen_in
from depthquestions.walks import QUANTIFIERS, folded, names_in, parts

# A mask is a number with a bit for each item of a store, in order: of the items with which something holds for a name
# if the other names are bound. So an innermost quantifier tries all items at once. What makes a mask is a function of
# what is bound.

MOST_KEPT_OTHERS = 2


class Field:
    """The items of a store as bits of masks."""

    def __init__(self, store):
        self.source = store
        self.bits = {item: 1 << at for at, item in enumerate(store[3])}
        self.whole = (1 << len(store[3])) - 1

    def marked(self, mark):
        """Returns the mask of the items that have a mark."""
        return sum([self.bits[fact[2]] for fact in self.source[4] if fact[:2] == ("mark", mark)])

    def led_by(self, column):
        """Returns the dict of the bits of the items to which a column leads items."""
        return {fact[2]: self.bits[fact[3]] for fact in self.source[4] if fact[:2] == ("link", column)}

    def leading(self, column):
        """Returns the dict of the bits of the items that a column leads to items."""
        return {fact[3]: self.bits[fact[2]] for fact in self.source[4] if fact[:2] == ("link", column)}

    def led_to_themselves(self, column):
        """Returns the mask of the items that a column leads to themselves."""
        led = self.led_by(column)
        return sum([self.bits[item] for item in led if led[item] == self.bits[item]])


def fixed_mask(mask):
    """Returns what makes always the same mask."""
    return lambda _: mask


def mask_of_test(field, test):
    """Returns what makes the mask of a test that does not hang on the name: all items or none."""
    return lambda bound: field.whole if test(bound) else 0


def mask_at(masks, name):
    """Returns what makes the mask that a dict tells for the item of a name, without items if it tells none."""
    return lambda bound: masks.get(bound[name], 0)


def mask_of_atom(field, one, name):
    """Returns what makes the mask of a question without parts for a name."""
    names = names_in(one)
    if name not in names:
        return mask_of_test(field, atom_test(field.source, one))
    if one[0] == "mark":
        return fixed_mask(field.marked(one[1]))
    if names == [name, name]:
        return fixed_mask(field.whole if one[0] == "same" else field.led_to_themselves(one[1]))
    other = names[1] if names[0] == name else names[0]
    if one[0] == "same":
        return mask_at(field.bits, other)
    return mask_at(field.leading(one[1]) if names[0] == name else field.led_by(one[1]), other)


def mask_of_not(field, inner):
    """Returns what makes the contrary of a mask."""
    return lambda bound: field.whole ^ inner(bound)


def mask_of_both(one, other):
    """Returns what makes the mask of the items that are in both masks."""
    return lambda bound: one(bound) & other(bound)


def mask_of_either(one, other):
    """Returns what makes the mask of the items that are in at least one of two masks."""
    return lambda bound: one(bound) | other(bound)


def mask_of_part(field, one, inner, name):
    """Returns what makes the mask of a question without quantifiers for a name, by what makes those of its parts."""
    if one[0] == "not":
        return mask_of_not(field, inner[0])
    if one[0] == "and":
        return mask_of_both(inner[0], inner[1])
    if one[0] == "or":
        return mask_of_either(inner[0], inner[1])
    return mask_of_atom(field, one, name)


def innermost_test(field, one):
    """Returns the test of a quantifier whose inner question has none."""
    mask = folded(one[2], lambda part, _, inner: mask_of_part(field, part, inner, one[1]))
    if one[0] == "some":
        return lambda bound: mask(bound) != 0
    return lambda bound: mask(bound) == field.whole


def kept_test(test, key_of):
    """Returns a test that keeps what a test tells, by the key of what is bound."""
    kept = {}

    def tested(bound):
        key = key_of(bound)
        if key not in kept:
            kept[key] = test(bound)
        return kept[key]
    return tested


def items_of(names):
    """Returns the function that makes the key of the items that names are bound to."""
    if len(names) == 1:
        return lambda bound: bound[names[0]]
    return lambda bound: tuple([bound[name] for name in names])


def likeness_of(sight, level, names):
    """Returns the function that makes one key for rows of items that have one code with the radius of a level.

    An item that is far from all others of the row stands in the key as its type, another one as itself.
    """
    if not names:
        return lambda _: ()
    numbers = sight.numbers_at(level)

    def key_of(bound):
        row = [bound[name] for name in names]
        key = []
        for at, item in enumerate(row):
            near = sight.near_to(item, level)
            lone = not any([other in near for other in row[:at] + row[at + 1:]])
            key.append(-1 - numbers[item] if lone else item)
        return tuple(key)
    return key_of


def quick_quantifier(sight, field, one, inner):
    """Returns the test of a quantifier, by that of its inner question."""
    others = others_of(one)
    level = level_of(one)
    if level > 0:
        test = quantifier_test(sight.all_looks_of(one), one[1], inner, one[0] == "some")
        return kept_test(test, likeness_of(sight, level + 1, others))
    test = innermost_test(field, one)
    return kept_test(test, items_of(others)) if len(others) <= MOST_KEPT_OTHERS else test


def quick_part(sight, field, one, inner):
    """Returns the test of a question, by the tests of its parts."""
    if one[0] in QUANTIFIERS:
        return quick_quantifier(sight, field, one, inner[0])
    if len(inner) == 2:
        first, second = [depth_in(seen_in(part)) for part in parts(one)]
        # The part that is told at less cost goes first: often the other one need not be asked then.
        return joined_test(one[0], inner if first <= second else inner[::-1])
    return joined_test(one[0], inner) if inner else atom_test(field.source, one)


def quick_test(store, sight, question):
    """Returns the test of a question of a store that is seen so, made for being asked many times."""
    field = Field(store)
    return folded(question, lambda one, _, inner: quick_part(sight, field, one, inner))
