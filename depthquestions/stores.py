"""Stores: items with marks, and one-to-one links between them."""

from depthquestions.errors import (
    InvalidFact, InvalidItem, InvalidList, InvalidName, InvalidNumber, InvalidStore, TooMany, Unlike)
from depthquestions.words import is_word

MOST_MARKS = 4
MOST_COLUMNS = 2
MOST_ITEMS = 2000
MOST_NUMBER = 10 ** 9
MOST_IN_ROW = 4


def is_whole(value):
    """Returns whether a value is a whole number."""
    # A Boolean is an integer for Python, but nowhere a number here.
    return isinstance(value, int) and not isinstance(value, bool)


def is_between(value, least, most):
    """Returns whether a value is a whole number that is neither less nor more than these."""
    return is_whole(value) and least <= value <= most


def check_between(value, least, most):
    """Raises the error for what must be such a whole number and is none."""
    if not is_between(value, least, most):
        raise InvalidNumber(value)


def is_number(value):
    """Returns whether a value is a number that an item may be."""
    return is_between(value, 0, MOST_NUMBER)


def are_words(value, most):
    """Returns whether a value is a list of at most so many unlike words."""
    if not isinstance(value, list) or len(value) > most:
        return False
    return all([is_word(word) for word in value]) and len(set(value)) == len(value)


def are_marks(value):
    """Returns whether a value is a list that the marks of a store may be."""
    return are_words(value, MOST_MARKS)


def are_columns(marks, value):
    """Returns whether a value is a list that the columns beside these marks may be."""
    return are_words(value, MOST_COLUMNS) and not any([word in marks for word in value])


def are_numbers(value):
    """Returns whether a value is a list of numbers that items may be, in any order."""
    return isinstance(value, list) and all([is_number(item) for item in value])


def is_ascending(rows):
    """Returns whether a list is in ascending order without duplicates."""
    return all([one < other for one, other in zip(rows, rows[1:])])


def is_fact(marks, columns, known, value):
    """Returns whether a value is a fact of these marks and columns, and of the items that are the keys of known."""
    if not isinstance(value, tuple) or len(value) not in (3, 4):
        return False
    if len(value) == 3:
        fits = value[0] == "mark" and value[1] in marks
    else:
        fits = value[0] == "link" and value[1] in columns
    return fits and all([is_number(item) and item in known for item in value[2:]])


def first_clash(facts):
    """Returns the first link from or to an item from or to which an unlike one ahead of it leads, None without one."""
    taken = {}
    for fact in facts:
        if fact[0] == "link":
            _, column, one, other = fact
            from_one = taken.setdefault((column, "from", one), fact)
            to_other = taken.setdefault((column, "to", other), fact)
            if from_one != fact or to_other != fact:
                return fact
    return None


def are_facts(marks, columns, items, value):
    """Returns whether a value is a list that the facts of a store with these marks, columns and items may be."""
    if not isinstance(value, list):
        return False
    known = {item: True for item in items}
    if not all([is_fact(marks, columns, known, fact) for fact in value]):
        return False
    return is_ascending(value) and first_clash(value) is None


def is_store(value):
    """Returns whether a value is a store."""
    if not isinstance(value, tuple) or len(value) != 5 or value[0] != "store":
        return False
    _, marks, columns, items, facts = value
    if not are_marks(marks) or not are_columns(marks, columns):
        return False
    if not are_numbers(items) or len(items) > MOST_ITEMS or not is_ascending(items):
        return False
    return are_facts(marks, columns, items, facts)


def check_store(store):
    """Raises the error for what must be a store and is none."""
    if not is_store(store):
        raise InvalidStore(store)


def is_item(store, value):
    """Returns whether a value is an item of a store."""
    return is_number(value) and value in store[3]


def check_item(store, item):
    """Raises the error for what must be an item of a store and is none."""
    if not is_item(store, item):
        raise InvalidItem(item)


def check_row(store, row):
    """Raises the error for what must be a row of items of a store and is none."""
    fits = isinstance(row, tuple) and len(row) <= MOST_IN_ROW
    if not fits or not all([is_item(store, item) for item in row]):
        raise InvalidList(row)


def check_second_store(one, other):
    """Raises the error for what must be a store with the marks and columns of another one, in the same order."""
    check_store(other)
    if one[1:3] != other[1:3]:
        raise Unlike(other)


def check_signs(marks, columns):
    """Raises the error for the first of two arguments that must be marks and columns as in a store and are not."""
    if not are_marks(marks):
        raise InvalidList(marks)
    if not are_columns(marks, columns):
        raise InvalidList(columns)


def check_lists(marks, columns, items, facts):
    """Raises the error for the first of the arguments of store_of that is no such list."""
    check_signs(marks, columns)
    if not are_numbers(items):
        raise InvalidList(items)
    if not isinstance(facts, list):
        raise InvalidList(facts)


def store_of(marks, columns, items, facts):
    """Returns the store with these marks and columns, and with the items and facts of two lists in any order."""
    check_lists(marks, columns, items, facts)
    known = {item: True for item in items}
    if len(known) > MOST_ITEMS:
        raise TooMany(len(known))
    for fact in facts:
        if not is_fact(marks, columns, known, fact):
            raise InvalidFact(fact)
    clash = first_clash(facts)
    if clash is not None:
        raise InvalidFact(clash)
    return ("store", list(marks), list(columns), sorted(known), sorted(set(facts)))


def facts_of(store, item):
    """Returns the list of the facts in which an item stands, in order."""
    check_store(store)
    check_item(store, item)
    return [fact for fact in store[4] if item in fact[2:]]


def check_led(store, column, item):
    """Raises the error for the first argument of led_to and led_from that is wrong."""
    check_store(store)
    if column not in store[2]:
        raise InvalidName(column)
    check_item(store, item)


def led_to(store, column, item):
    """Returns the item to which a column leads an item, None if there is none."""
    check_led(store, column, item)
    for fact in store[4]:
        if fact[:3] == ("link", column, item):
            return fact[3]
    return None


def led_from(store, column, item):
    """Returns the item that a column leads to an item, None if there is none."""
    check_led(store, column, item)
    for fact in store[4]:
        if fact[:2] == ("link", column) and fact[3] == item:
            return fact[2]
    return None
