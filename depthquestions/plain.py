"""The plain reading: each quantifier goes through all items."""

from depthquestions.errors import InvalidList, InvalidQuestion
from depthquestions.questions import free_names, is_question_of
from depthquestions.stores import check_store, is_item
from depthquestions.walks import QUANTIFIERS, folded
from depthquestions.words import is_word

MOST_NAMES = 3


def check_question_of(store, question):
    """Raises the error for what must be a store or a question of it and is none."""
    check_store(store)
    if not is_question_of(store[1], store[2], question):
        raise InvalidQuestion(question)


def binds(store, name, value):
    """Returns whether a value is a tuple of this name and an item of the store."""
    if not isinstance(value, tuple) or len(value) != 2:
        return False
    return value[0] == name and is_item(store, value[1])


def is_binding(store, names, value):
    """Returns whether a value is a binding of just these names, which are in order."""
    if not isinstance(value, list) or len(value) != len(names):
        return False
    return all([binds(store, name, pair) for name, pair in zip(names, value)])


def check_bound(store, question, binding):
    """Raises the error for the first wrong argument of holds and first_choice."""
    check_question_of(store, question)
    if not is_binding(store, free_names(question), binding):
        raise InvalidList(binding)


def are_names_for(question, value):
    """Returns whether a value is a list of at most three unlike words that has all free names of a question."""
    if not isinstance(value, list) or len(value) > MOST_NAMES:
        return False
    if not all([is_word(name) for name in value]) or len(set(value)) < len(value):
        return False
    return all([name in value for name in free_names(question)])


def check_named(store, question, names):
    """Raises the error for the first wrong argument of answers and how_many_plain."""
    check_question_of(store, question)
    if not are_names_for(question, names):
        raise InvalidList(names)


# A test is a function that takes a dict of the items to which names are bound, and returns whether something holds with
# them. Tests are made once for each question, as rows of items are tried with it by the thousands. The test of a
# quantifier need not free its name again: in a question nothing outside of the quantifier reads it.


def mark_test(marked, name):
    """Returns the test whether the item of a name is among those that have a mark."""
    return lambda bound: bound[name] in marked


def link_test(led, one, other):
    """Returns the test whether the item of one name is led to that of the other one."""
    return lambda bound: led.get(bound[one]) == bound[other]


def same_test(one, other):
    """Returns the test whether the items of two names are one."""
    return lambda bound: bound[one] == bound[other]


def fixed_test(flag):
    """Returns the test that always tells the same."""
    return lambda _: flag


def not_test(inner):
    """Returns the contrary of a test."""
    return lambda bound: not inner(bound)


def and_test(one, other):
    """Returns the test whether both of two tests hold."""
    return lambda bound: one(bound) and other(bound)


def or_test(one, other):
    """Returns the test whether at least one of two tests holds."""
    return lambda bound: one(bound) or other(bound)


def joined_test(word, inner):
    """Returns the test of a not, an and or an or, by the tests of its parts."""
    if word == "not":
        return not_test(inner[0])
    if word == "and":
        return and_test(inner[0], inner[1])
    return or_test(inner[0], inner[1])


def quantifier_test(looked, name, inner, sought):
    """Returns the test that tells what is sought if the inner one tells it for an item, and otherwise the contrary.

    The function looked tells the items that are tried.
    """
    def test(bound):
        for item in looked(bound):
            bound[name] = item
            if inner(bound) == sought:
                return sought
        return not sought
    return test


def atom_test(store, one):
    """Returns the test of a question without parts."""
    if one[0] == "mark":
        marked = {fact[2]: True for fact in store[4] if fact[:2] == one[:2]}
        return mark_test(marked, one[2])
    if one[0] == "link":
        led = {fact[2]: fact[3] for fact in store[4] if fact[:2] == one[:2]}
        return link_test(led, one[2], one[3])
    if one[0] == "same":
        return same_test(one[1], one[2])
    return fixed_test(one[0] == "true")


def part_test(store, looking, one, inner):
    """Returns the test of a question, by the tests of its parts."""
    if one[0] in QUANTIFIERS:
        return quantifier_test(looking(one), one[1], inner[0], one[0] == "some")
    return joined_test(one[0], inner) if inner else atom_test(store, one)


def test_by(store, question, looking):
    """Returns the test of a question of a store.

    For each quantifier, looking makes the function that tells the items which are tried, by what is bound.
    """
    return folded(question, lambda one, _, inner: part_test(store, looking, one, inner))


def test_of(store, question):
    """Returns the test of a question of a store in which each quantifier goes through all items."""
    def all_items(_):
        return store[3]
    return test_by(store, question, lambda _: all_items)


def holds(store, question, binding):
    """Returns whether a question holds with a binding of its free names."""
    check_bound(store, question, binding)
    test = test_of(store, question)
    return test(dict(binding))


def rows_of_items(items, many):
    """Returns the list, in order, of all tuples of so many items."""
    rows = [()]
    for _ in range(many):
        rows = [(*row, item) for row in rows for item in items]
    return rows


def answers(store, question, names):
    """Returns the list, in order, of the tuples of items with which a question holds if the names are bound to them."""
    check_named(store, question, names)
    test = test_of(store, question)
    rows = rows_of_items(store[3], len(names))
    return [row for row in rows if test(dict(zip(names, row)))]


def how_many_plain(store, question, names):
    """Returns how many answers a question has."""
    return len(answers(store, question, names))


def first_choice(store, question, binding):
    """Returns the least item that shows why a some holds or an all does not, None if there is none."""
    check_bound(store, question, binding)
    if question[0] not in QUANTIFIERS:
        return None
    sought = question[0] == "some"
    test = test_of(store, question[2])
    bound = dict(binding)
    for item in store[3]:
        bound[question[1]] = item
        if test(bound) == sought:
            return item
    return None
