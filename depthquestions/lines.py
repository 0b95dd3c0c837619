"""Lines: stores of one column written letter by letter."""

from depthquestions.balls import NOWHERE, table_of
from depthquestions.errors import InvalidList, Unlike
from depthquestions.plain import rows_of_items
from depthquestions.stores import are_words, check_store, is_between

MOST_LINE_MARKS = 2
# How a letter starts: it goes on with the piece of the letter ahead, or begins a path or a ring.
GOES_ON = 0
PATH = 1
RING = 2


def check_line_marks(marks):
    """Raises the error for what must be a list of at most two marks and is none."""
    if not are_words(marks, MOST_LINE_MARKS):
        raise InvalidList(marks)


def check_line_signs(marks, columns):
    """Raises the error for the first of what must be at most two marks and one column and is not."""
    check_line_marks(marks)
    if not are_words(columns, 1) or len(columns) != 1 or columns[0] in marks:
        raise InvalidList(columns)


def letters(marks):
    """Returns the list of all letters, in order."""
    check_line_marks(marks)
    return [(start, bits) for start in range(RING + 1) for bits in rows_of_items([0, 1], len(marks))]


def is_letter(many, value):
    """Returns whether a value is a letter for so many marks."""
    if not isinstance(value, tuple) or len(value) != 2 or not is_between(value[0], GOES_ON, RING):
        return False
    if not isinstance(value[1], tuple) or len(value[1]) != many:
        return False
    return all([is_between(bit, 0, 1) for bit in value[1]])


def is_line(marks, value):
    """Returns whether a value is a line."""
    check_line_marks(marks)
    if not isinstance(value, list) or not all([is_letter(len(marks), letter) for letter in value]):
        return False
    return len(value) == 0 or value[0][0] != GOES_ON


def first_of_piece(table, item):
    """Returns how the piece starts whose least item this is, and with which item."""
    first = item
    while table[first][2] != NOWHERE:
        first = table[first][2]
        if first == item:
            return RING, item
    return PATH, first


def line_of(store):
    """Returns a line of a store: its pieces in the order of their least items."""
    check_store(store)
    if len(store[1]) > MOST_LINE_MARKS or len(store[2]) != 1:
        raise Unlike(store)
    table = table_of(store)
    written = {}
    line = []
    for item in store[3]:
        if item not in written:
            start, end = first_of_piece(table, item)
            while end != NOWHERE and end not in written:
                written[end] = True
                line.append((start, table[end][0]))
                start, end = GOES_ON, table[end][1]
    return line


def links_of_line(column, line):
    """Returns the list of the links that a line tells."""
    found = []
    first = 0
    for number, (start, _) in enumerate(line):
        if start == GOES_ON:
            found.append(("link", column, number - 1, number))
        else:
            first = number
        ends = number + 1 == len(line) or line[number + 1][0] != GOES_ON
        if ends and line[first][0] == RING:
            found.append(("link", column, number, first))
    return found


def told_by_line(marks, columns, line):
    """Returns what store_of_line returns, of a line that is known to be one."""
    facts = [("mark", mark, number) for number, (_, bits) in enumerate(line)
             for mark, bit in zip(marks, bits) if bit == 1]
    facts.extend(links_of_line(columns[0], line))
    return ("store", list(marks), list(columns), list(range(len(line))), sorted(facts))


def store_of_line(marks, columns, line):
    """Returns the store of a line; its items are counted from 0."""
    check_line_signs(marks, columns)
    if not is_line(marks, line):
        raise InvalidList(line)
    return told_by_line(marks, columns, line)
