"""What holds in all stores of one column: least stores, where questions part, sizes, and how many lines there are."""

from depthquestions.lines import check_line_signs, letters, told_by_line
from depthquestions.machines import check_asked_of_lines, machine_of
from depthquestions.questions import TRUE
from depthquestions.stores import check_between

MOST_LETTERS_COUNTED = 200


def check_everywhere(marks, columns, question):
    """Raises the error for the first of marks, columns and a question that is wrong."""
    check_line_signs(marks, columns)
    check_asked_of_lines(marks, columns, question)


def first_line(marks, table, good):
    """Returns the first, in order, of the shortest lines that end in good states, None if there is none."""
    if not good:
        return None
    # States have the numbers in the order in which they are met: so the line that first leads to the least good one
    # is the line that is looked for.
    ways = {0: None}
    for state, row in enumerate(table):
        for letter, behind in enumerate(row):
            ways.setdefault(behind, (state, letter))
    known = letters(marks)
    line = []
    way = ways[good[0]]
    while way is not None:
        line.append(known[way[1]])
        way = ways[way[0]]
    return line[::-1]


def least_told(marks, columns, question):
    """Returns what least_store returns, of arguments that are known to be right."""
    table, good = machine_of(marks, question)
    line = first_line(marks, table, good)
    return None if line is None else told_by_line(marks, columns, line)


def least_store(marks, columns, question):
    """Returns a store with the fewest items in which a question holds, None if there is none."""
    check_everywhere(marks, columns, question)
    return least_told(marks, columns, question)


def holds_where(marks, columns, question):
    """Returns whether a question holds in all stores, in some or in none."""
    check_everywhere(marks, columns, question)
    table, good = machine_of(marks, question)
    if not good:
        return "none"
    # There is just one least machine with its states numbered so.
    return "all" if (table, good) == machine_of(marks, TRUE) else "some"


def parting_store(marks, columns, one, other):
    """Returns a store with the fewest items in which just one of two questions holds, None if there is none."""
    check_everywhere(marks, columns, one)
    check_asked_of_lines(marks, columns, other)
    parting = ("or", ("and", one, ("not", other)), ("and", other, ("not", one)))
    return least_told(marks, columns, parting)


def flags_of_lengths(table, good):
    """Returns the list of a 0 or 1 for each length of lines, up to where it goes on as from an earlier length on, and
    the number of this one.

    A length has a 1 if a line of it ends in a good state.
    """
    goods = {state: True for state in good}
    seen = {}
    flags = []
    states = (0,)
    while states not in seen:
        seen[states] = len(flags)
        flags.append(1 if any([state in goods for state in states]) else 0)
        states = tuple(sorted({behind for state in states for behind in table[state]}))
    return flags, seen[states]


def shortest_round(flags):
    """Returns the shortest list that, said again and again, is a list of flags."""
    many = len(flags)
    for size in range(1, many + 1):
        if many % size == 0 and flags == flags[:size] * (many // size):
            return flags[:size]
    return flags


def shortest_told(ahead, around):
    """Returns two lists that tell the same as these, both as short as can be, the first one before the second."""
    head = list(ahead)
    ring = shortest_round(around)
    while head and head[-1] == ring[-1]:
        ring = [head.pop(), *ring[:-1]]
    return head, ring


def sizes(marks, columns, question):
    """Returns for which numbers of items a question holds in some store: flags ahead, and flags that come around."""
    check_everywhere(marks, columns, question)
    table, good = machine_of(marks, question)
    flags, start = flags_of_lengths(table, good)
    return shortest_told(flags[:start], flags[start:])


def how_many_lines(marks, columns, question, length):
    """Returns how many lines with so many letters have stores in which a question holds."""
    check_everywhere(marks, columns, question)
    check_between(length, 0, MOST_LETTERS_COUNTED)
    table, good = machine_of(marks, question)
    counts = {0: 1}
    for _ in range(length):
        behind = {}
        for state, many in list(counts.items()):
            for end in table[state]:
                behind[end] = behind.get(end, 0) + many
        counts = behind
    return sum([counts.get(state, 0) for state in good])
