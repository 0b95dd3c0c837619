"""Least machines over letters with tracks: explored, made least, and joined.

A track is a tuple of a word, "mark" or "name", and of a mark or a name. A letter is a number: its start comes first,
and behind it a bit for each track. The state 0 is that in which a machine begins.
"""

from depthquestions.errors import TooMany


class Machine:
    """A machine over letters with tracks: its table has a row for each state, and a state letter by letter; the flags
    tell which states are good."""

    def __init__(self, tracks, table, good):
        self.tracks = tracks
        self.table = table
        self.good = good


def how_many_letters(tracks):
    """Returns how many letters there are with these tracks."""
    many = 3
    for _ in tracks:
        many = many * 2
    return many


def letters_within(tracks, own):
    """Returns the list that tells for each letter with some tracks which one it is with some of them alone."""
    shifts = [len(tracks) - 1 - tracks.index(track) for track in own]
    found = []
    for letter in range(how_many_letters(tracks)):
        number = letter >> len(tracks)
        for shift in shifts:
            number = number * 2 + (letter >> shift & 1)
        found.append(number)
    return found


def widened(machine, tracks):
    """Returns the table of a machine over letters with more tracks, which change nothing."""
    within = letters_within(tracks, machine.tracks)
    return [[row[letter] for letter in within] for row in machine.table]


def explored(first, row_of, most):
    """Returns the list of all that is met from a first thing on, and for each the list of the numbers behind it.

    What is behind a thing is told by row_of, letter by letter. The most that may be met is None where it is no matter.
    """
    numbers = {first: 0}
    met = [first]
    table = []
    while len(table) < len(met):
        row = row_of(met[len(table)])
        for thing in row:
            if thing not in numbers:
                if len(met) == most:
                    raise TooMany(most + 1)
                numbers[thing] = len(met)
                met.append(thing)
        table.append([numbers[thing] for thing in row])
    return met, table


def unlike_columns(table):
    """Returns the list of the rows of a table without the letters that always do what another one does."""
    columns = {column: True for column in zip(*table)}
    unlike = list(columns)
    return list(zip(*unlike))


def classes_of(table, good):
    """Returns a list with a number for each state; two states have one exactly if they answer alike."""
    rows = unlike_columns(table)
    found = [1 if flag else 0 for flag in good]
    many = len(set(found))
    while True:
        numbers = {}
        finer = []
        for state, row in enumerate(rows):
            key = (found[state], *[found[end] for end in row])
            finer.append(numbers.setdefault(key, len(numbers)))
        if len(numbers) == many:
            return finer
        many = len(numbers)
        found = finer


def least(tracks, table, good):
    """Returns the least machine that answers as this table and the flags of its states do.

    Its states are numbered in the order in which they are met.
    """
    classes = classes_of(table, good)
    states = {}
    for state, number in enumerate(classes):
        states.setdefault(number, state)
    met, rows = explored(classes[0], lambda number: [classes[end] for end in table[states[number]]], len(table))
    return Machine(tracks, rows, [good[states[number]] for number in met])


def joined(machines, tracks, most):
    """Returns the list of the tuples of states of some machines that are met together, and the table of their
    numbers."""
    tables = [widened(machine, tracks) for machine in machines]

    def row_of(states):
        rows = [table[state] for table, state in zip(tables, states)]
        return list(zip(*rows))
    return explored(tuple([0 for _ in machines]), row_of, most)
