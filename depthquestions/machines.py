"""Machines: what reads the lines of stores of one column and tells in which of them a question holds."""

from depthquestions.errors import InvalidQuestion, TooMany
from depthquestions.lines import GOES_ON, RING, check_line_signs
from depthquestions.questions import free_names, is_question_of
from depthquestions.tables import Machine, explored, how_many_letters, joined, least, letters_within
from depthquestions.walks import QUANTIFIERS, names_in, parts, parts_first, words_in

MOST_MET = 3000
MOST_STATES = 600

# States of the machines that are made at first. A machine of lines in which names have ones is in the state of a number
# of at least 0 when it has read some letters: the names that had their ones stand in it as bits.
FIRST = -1
DEAD = -2
# Further states of the machine of a link: one was read just now; the other one was read where the ring begins that goes
# on; both were read, and the link holds if the ring ends here; both were read, and the link holds.
ONE_AHEAD = 1
OTHER_BEGAN = 2
IF_RING_ENDS = 3
BOTH_READ = 4


def name_tracks(names):
    """Returns the list of the tracks of names, in order."""
    return [("name", name) for name in sorted(names)]


def made_by(tracks, step, goods):
    """Returns the least machine of a function that tells the state behind a state, for a start and the bits of tracks.

    The good states are told by a list.
    """
    many = len(tracks)
    ones = 1 << many
    letters = [(letter >> many, letter & (ones - 1)) for letter in range(how_many_letters(tracks))]
    met, table = explored(FIRST, lambda state: [step(state, start, bits) for start, bits in letters], None)
    return least(tracks, table, [state in goods for state in met])


def step_of_ones(state, start, ones):
    """Returns the state behind a letter in which some names have ones, if each may have just one in the whole line."""
    if state == DEAD or (state == FIRST and start == GOES_ON):
        return DEAD
    seen = max(state, 0)
    return DEAD if seen & ones else seen | ones


def machine_of_ones(names):
    """Returns the least machine of all lines in which each of some names has just one 1."""
    tracks = name_tracks(names)
    whole = (1 << len(tracks)) - 1
    return made_by(tracks, step_of_ones, [whole] if tracks else [FIRST, whole])


def machine_of_mark(mark, name):
    """Returns the machine of a mark."""
    def step(state, start, bits):
        # The bit of the mark stands ahead of that of the name.
        return DEAD if bits == 1 else step_of_ones(state, start, bits & 1)
    return made_by([("mark", mark), *name_tracks([name])], step, [1])


def machine_of_same(one, other):
    """Returns the machine of an equality."""
    if one == other:
        return machine_of_ones([one])

    def step(state, start, bits):
        return DEAD if bits in (1, 2) else step_of_ones(state, start, bits & 1)
    return made_by(name_tracks([one, other]), step, [1])


def step_of_link(state, start, one, other):
    """Returns the state of the machine of a link behind a letter, in which the item of one or of the other may be."""
    if state in (FIRST, 0):
        return first_step_of_link(state, start, one, other)
    if state == ONE_AHEAD:
        return BOTH_READ if other and not one and start == GOES_ON else DEAD
    if state == OTHER_BEGAN and start == GOES_ON and not other:
        return IF_RING_ENDS if one else OTHER_BEGAN
    if state == BOTH_READ or (state == IF_RING_ENDS and start != GOES_ON):
        return DEAD if one or other else BOTH_READ
    return DEAD


def first_step_of_link(state, start, one, other):
    """Returns the state of the machine of a link behind a letter, if neither item was read ahead of it."""
    if state == FIRST and start == GOES_ON:
        return DEAD
    if not other:
        return ONE_AHEAD if one else 0
    # The other one comes ahead of the one, or is the same: so it must be the first one of a ring.
    if start != RING:
        return DEAD
    return IF_RING_ENDS if one else OTHER_BEGAN


def machine_of_link(one, other):
    """Returns the machine of a link."""
    tracks = name_tracks([one] if one == other else [one, other])
    shifts = [len(tracks) - 1 - tracks.index(("name", name)) for name in (one, other)]

    def step(state, start, bits):
        return step_of_link(state, start, bits >> shifts[0] & 1, bits >> shifts[1] & 1)
    return made_by(tracks, step, [IF_RING_ENDS, BOTH_READ])


def machine_of_atom(one):
    """Returns the least machine of a question without parts."""
    names = names_in(one)
    if one[0] == "mark":
        return machine_of_mark(one[1], names[0])
    if one[0] == "link":
        return machine_of_link(names[0], names[1])
    if one[0] == "same":
        return machine_of_same(names[0], names[1])
    if one[0] == "true":
        return machine_of_ones([])
    return Machine([], [[0 for _ in range(how_many_letters([]))]], [False])


def is_good(word, flags):
    """Returns whether a not, an and or an or holds, by whether its parts do."""
    if word == "not":
        return not flags[0]
    return all(flags) if word == "and" else any(flags)


def machine_of_joined(word, machines, names, most):
    """Returns the least machine of a not, an and or an or, with told free names, by those of its parts.

    More tuples of states than the most ones are too many.
    """
    ones = machine_of_ones(names)
    tracks = sorted({track for made in [*machines, ones] for track in made.tracks})
    met, table = joined([*machines, ones], tracks, most)
    good = []
    for states in met:
        flags = [made.good[state] for made, state in zip(machines, states)]
        good.append(ones.good[states[-1]] and is_good(word, flags))
    return least(tracks, table, good)


def names_of(made):
    """Returns the list of the names that have tracks of a machine."""
    return [word for kind, word in made.tracks if kind == "name"]


def how_many_signs(made):
    """Returns how many signs the text of a set of states of a machine has, each for four states."""
    return (len(made.table) + 3) // 4


def bits_behind(made, letters):
    """Returns for each state the number with bits for what is behind it, for each of a list of letters.

    A letter is a list of those letters of the machine that it may be. The states that may be behind the last letter
    have the lowest bits; each letter has as many bits as there are states, filled up to whole signs of the text.
    """
    width = 4 * how_many_signs(made)
    found = []
    for row in made.table:
        bits = 0
        for options in letters:
            behind = 0
            for letter in options:
                behind = behind | 1 << row[letter]
            bits = bits << width | behind
        found.append(bits)
    return found


def states_in(text):
    """Returns the list of the states of a set that is told by a text."""
    bits = int(text, 16)
    found = []
    while bits > 0:
        last = bits & -bits
        found.append(last.bit_length() - 1)
        bits = bits ^ last
    return found


def machine_of_sets(made, name):
    """Returns the least machine of lines in which a machine may read some ones for a name.

    A set of states is told by a text of signs for four states each: so the sets behind all letters are found at once.
    """
    track = ("name", name)
    tracks = [other for other in made.tracks if other != track]
    letters = [[] for _ in range(how_many_letters(tracks))]
    for letter, own in enumerate(letters_within(made.tracks, tracks)):
        letters[own].append(letter)
    behind = bits_behind(made, letters)
    size = how_many_signs(made)
    starts = list(range(0, size * len(letters), size))

    def row_of(text):
        bits = 0
        for state in states_in(text):
            bits = bits | behind[state]
        whole = f"{bits:x}".zfill(size * len(letters))
        return [whole[start:start + size] for start in starts]
    met, table = explored("1".zfill(size), row_of, MOST_MET)
    return least(tracks, table, [any([made.good[state] for state in states_in(text)]) for text in met])


def machine_of_quantified(one, inner):
    """Returns the least machine of a quantifier, by that of its inner question."""
    names = sorted(set([*names_of(inner), one[1]]))
    others = [name for name in names if name != one[1]]
    # What is met here is not counted, only the sets are; so there is no bound.
    if one[0] == "some":
        tried = inner if one[1] in names_of(inner) else machine_of_joined("and", [inner], names, None)
        return machine_of_sets(tried, one[1])
    contrary = machine_of_joined("not", [inner], names, None)
    return machine_of_joined("not", [machine_of_sets(contrary, one[1])], others, None)


def machine_of_part(one, inner):
    """Returns the least machine of a part, by those of its own parts."""
    if not inner:
        return machine_of_atom(one)
    if one[0] in QUANTIFIERS:
        return machine_of_quantified(one, inner[0])
    names = sorted({name for part in inner for name in names_of(part)})
    return machine_of_joined(one[0], inner, names, MOST_MET)


def machine_made(question):
    """Returns the least machine of a question, made part by part; equal parts are made once."""
    numbers = {}
    machines = []
    waiting = []
    for one in parts_first(question):
        own = [waiting.pop() for _ in parts(one)][::-1]
        key = (one[0], *words_in(one), *own)
        if key not in numbers:
            made = machine_of_part(one, [machines[number] for number in own])
            if len(made.table) > MOST_STATES:
                raise TooMany(len(made.table))
            numbers[key] = len(machines)
            machines.append(made)
        waiting.append(numbers[key])
    return machines[waiting[0]]


def check_asked_of_lines(marks, columns, question):
    """Raises the error for what must be a question without free names, with these marks and columns, and is none."""
    if not is_question_of(marks, columns, question) or free_names(question):
        raise InvalidQuestion(question)


def machine_of(marks, question):
    """Returns what machine returns, of marks and a question that are known to be right."""
    made = machine_made(question)
    tracks = [("mark", mark) for mark in marks]
    within = letters_within(tracks, made.tracks)
    whole = least(tracks, [[row[letter] for letter in within] for row in made.table], made.good)
    return (whole.table, [state for state, flag in enumerate(whole.good) if flag])


def machine(marks, columns, question):
    """Returns the machine with the fewest states that tells in which stores of lines a question holds."""
    check_line_signs(marks, columns)
    check_asked_of_lines(marks, columns, question)
    return machine_of(marks, question)
