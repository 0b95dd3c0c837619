"""Codes: what a ball looks like, whatever numbers its items have."""

from depthquestions.balls import NOWHERE, check_ball, reached, table_of
from depthquestions.errors import InvalidList, InvalidPaper
from depthquestions.radii import MOST_REACH
from depthquestions.stores import (
    MOST_IN_ROW, MOST_ITEMS, check_between, check_row, check_second_store, check_signs, check_store, is_between)


def code_at(table, row, radius):
    """Returns the code of the ball of a row in a table, which may be the rows of a code as well."""
    walk = list(reached(table, row, radius))
    numbers = {item: number for number, item in enumerate(walk)}
    rows = [(table[item][0], *[numbers.get(end, NOWHERE) for end in table[item][1:]]) for item in walk]
    return (tuple([numbers[item] for item in row]), tuple(rows))


def code_of(store, row, radius):
    """Returns the code of the ball of a row."""
    check_ball(store, row, radius)
    return code_at(table_of(store), row, radius)


def same_form(one, row, other, other_row, radius):
    """Returns the list of items and images of the map between two balls that are alike, None if they are not."""
    check_ball(one, row, radius)
    check_second_store(one, other)
    check_row(other, other_row)
    table, other_table = table_of(one), table_of(other)
    if code_at(table, row, radius) != code_at(other_table, other_row, radius):
        return None
    return sorted(zip(reached(table, row, radius), reached(other_table, other_row, radius)))


def types_in(table, radius):
    """Returns what types returns, of a table."""
    found = {}
    for item in table:
        found.setdefault(code_at(table, (item,), radius), []).append(item)
    return [(code, found[code]) for code in sorted(found)]


def types(store, radius):
    """Returns the list of the types of single items, in order, each with the list of the items that have it."""
    check_store(store)
    check_between(radius, 0, MOST_REACH)
    return types_in(table_of(store), radius)


def is_row_of_code(marks, columns, many, value):
    """Returns whether a value has the form of a row of a code with so many rows."""
    if not isinstance(value, tuple) or len(value) != 1 + 2 * len(columns):
        return False
    if not isinstance(value[0], tuple) or len(value[0]) != len(marks):
        return False
    if not all([is_between(bit, 0, 1) for bit in value[0]]):
        return False
    return all([is_between(end, NOWHERE, many - 1) for end in value[1:]])


def are_rows_of_code(marks, columns, value):
    """Returns whether a value is a tuple of rows of a code in which each link stands in the rows of both its items."""
    if not isinstance(value, tuple) or len(value) > MOST_ITEMS:
        return False
    if not all([is_row_of_code(marks, columns, len(value), row) for row in value]):
        return False
    for number, row in enumerate(value):
        for at in range(1, len(row), 2):
            if row[at] != NOWHERE and value[row[at]][at + 1] != number:
                return False
            if row[at + 1] != NOWHERE and value[row[at + 1]][at] != number:
                return False
    return True


def are_numbers_of(rows, value):
    """Returns whether a value is a tuple of at most four numbers of the rows of a code."""
    if not isinstance(value, tuple) or len(value) > MOST_IN_ROW:
        return False
    return all([is_between(number, 0, len(rows) - 1) for number in value])


def is_code(marks, columns, value):
    """Returns whether a value is the code of some ball of a store with these marks and columns."""
    check_signs(marks, columns)
    if not isinstance(value, tuple) or len(value) != 2:
        return False
    roots, rows = value
    if not are_rows_of_code(marks, columns, rows) or not are_numbers_of(rows, roots):
        return False
    return list(reached(rows, roots, len(rows))) == list(range(len(rows)))


def check_code(marks, columns, code):
    """Raises the error for what must be a code and is none."""
    if not is_code(marks, columns, code):
        raise InvalidPaper(code)


def store_of_code(marks, columns, code):
    """Returns the store that a code tells; its items are the numbers of the code."""
    check_code(marks, columns, code)
    facts = []
    for number, row in enumerate(code[1]):
        facts.extend([("mark", mark, number) for mark, bit in zip(marks, row[0]) if bit == 1])
        facts.extend([("link", column, number, to) for column, to in zip(columns, row[1::2]) if to != NOWHERE])
    return ("store", list(marks), list(columns), list(range(len(code[1]))), sorted(facts))


def code_within(marks, columns, code, row, radius):
    """Returns the code of the ball of a row of numbers of a code, in the store that the code tells."""
    check_code(marks, columns, code)
    if not are_numbers_of(code[1], row):
        raise InvalidList(row)
    check_between(radius, 0, MOST_REACH)
    return code_at(code[1], row, radius)


def moved(row, many):
    """Returns a row of a code with numbers that are greater by so many."""
    return (row[0], *[NOWHERE if end == NOWHERE else end + many for end in row[1:]])


def side_by_side(rows, others):
    """Returns the rows of two codes together, with nothing between them; the numbers of the first ones stay."""
    return [*rows, *[moved(row, len(rows)) for row in others]]


def beside(marks, columns, one, other):
    """Returns the code of the ball of two rows, one behind the other, if their balls have nothing between them."""
    check_code(marks, columns, one)
    check_code(marks, columns, other)
    if len(one[0]) + len(other[0]) > MOST_IN_ROW:
        raise InvalidList(other)
    rows = side_by_side(one[1], other[1])
    roots = (*one[0], *[root + len(one[1]) for root in other[0]])
    return code_at(rows, roots, len(rows))
