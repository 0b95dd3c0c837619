"""Single edits of stores. Each makes a new store; the one that was handed in stays as it is."""

from depthquestions.errors import InvalidFact, InvalidItem, InvalidList, TooMany
from depthquestions.stores import MOST_ITEMS, check_store, first_clash, is_fact, is_item, is_number


def remade(store, items, facts):
    """Returns a store with the marks and columns of another one, all of whose lists are new."""
    return ("store", list(store[1]), list(store[2]), sorted(items), sorted(facts))


def put_fact(store, fact):
    """Returns what with_fact returns, of a store that is known to be one."""
    _, marks, columns, items, facts = store
    known = {item: True for item in items}
    if not is_fact(marks, columns, known, fact) or fact in facts:
        raise InvalidFact(fact)
    longer = [*facts, fact]
    if first_clash(longer) is not None:
        raise InvalidFact(fact)
    return remade(store, items, longer)


def take_fact(store, fact):
    """Returns what without_fact returns, of a store that is known to be one."""
    _, marks, columns, items, facts = store
    known = {item: True for item in items}
    # Something with a Boolean for an item is no fact, but equal to one that may stand in the store.
    if not is_fact(marks, columns, known, fact) or fact not in facts:
        raise InvalidFact(fact)
    return remade(store, items, [other for other in facts if other != fact])


def add_item(store, item):
    """Returns what with_item returns, of a store that is known to be one."""
    if not is_number(item) or is_item(store, item):
        raise InvalidItem(item)
    many = len(store[3]) + 1
    if many > MOST_ITEMS:
        raise TooMany(many)
    return remade(store, [*store[3], item], store[4])


def drop_item(store, item):
    """Returns what without_item returns, of a store that is known to be one."""
    if not is_item(store, item) or any([item in fact[2:] for fact in store[4]]):
        raise InvalidItem(item)
    return remade(store, [other for other in store[3] if other != item], store[4])


MAKERS = {"put": put_fact, "take": take_fact, "add": add_item, "drop": drop_item}
INVERSES = {"put": "take", "take": "put", "add": "drop", "drop": "add"}


def with_fact(store, fact):
    """Returns the store with one fact more."""
    check_store(store)
    return put_fact(store, fact)


def without_fact(store, fact):
    """Returns the store with one fact less."""
    check_store(store)
    return take_fact(store, fact)


def with_item(store, item):
    """Returns the store with one item more, which stands in no fact."""
    check_store(store)
    return add_item(store, item)


def without_item(store, item):
    """Returns the store with one item less."""
    check_store(store)
    return drop_item(store, item)


def is_edit(value):
    """Returns whether a value has the form of an edit, whatever stands behind its word."""
    if not isinstance(value, tuple) or len(value) != 2:
        return False
    return isinstance(value[0], str) and value[0] in MAKERS


def made(store, edit):
    """Returns the store after an edit that has the form of one, of a store that is known to be one."""
    word, value = edit
    make = MAKERS[word]
    return make(store, value)


def check_edits(edits):
    """Raises the error for what must be a list of edits, by their form, and is none."""
    if not isinstance(edits, list) or not all([is_edit(edit) for edit in edits]):
        raise InvalidList(edits)


def all_made(store, edits):
    """Returns the store after all edits of such a list, of a store that is known to be one."""
    after = remade(store, store[3], store[4])
    for edit in edits:
        after = made(after, edit)
    return after


def done(store, edits):
    """Returns the store after all edits of a list, as they stand, one after the other."""
    check_store(store)
    check_edits(edits)
    return all_made(store, edits)
