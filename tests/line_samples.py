"""What the tests of lines and machines share: all lines, questions, and machines made anew by the words of point [51]."""

import random
from itertools import combinations, product

from samples import random_question

from depthquestions.questions import free_names

TRUE = ("true",)
LED = ("all", "u", ("some", "v", ("link", "next", "u", "v")))
MET = ("all", "u", ("some", "v", ("link", "next", "v", "u")))
TWO = ("some", "u", ("some", "v", ("not", ("same", "u", "v"))))
PAIRED = ("all", "u", ("some", "v", ("and", ("not", ("same", "u", "v")), ("and", (
    "link", "next", "u", "v"), ("link", "next", "v", "u")))))
NO_LINE_MARKS = [None, True, 3, "red", ("red",), ["red", "red"], ["in"], ["Red"], [1], ["a", "b", "c"], {}, [["red"]]]
NO_LINE_COLUMNS = [None, False, 3, "next", ("next",), [], ["next", "next"], ["n", "m"], ["some"], ["red"], [None], {}]
NO_CLOSED = [("mark", "red", "x"), ("same", "x", "x"), ("mark", "blue", "x"), ("some", "u", ("mark", "blue", "u")),
             ("some", "u", ("link", "up", "u", "u")), ("some", "u", ("mark", "next", "u")),
             ("all", "x", ("all", "x", TRUE)), ("and", TRUE, ("some", "y", ("link", "next", "x", "y"))), ["true"]]


def all_letters(marks):
    return [(start, bits) for start in range(3) for bits in product([0, 1], repeat=len(marks))]


def all_lists(marks, many):
    """All lists of so many letters, lines or not."""
    return [list(row) for row in product(all_letters(marks), repeat=many)]


def is_told_line(line):
    return not line or line[0][0] != 0


def told_store(marks, columns, line):
    """The store of a line, by the words of the document."""
    pieces = []
    for number, (start, _) in enumerate(line):
        if start:
            pieces.append((start, []))
        pieces[-1][1].append(number)
    facts = [("mark", mark, number) for number, (_, bits) in enumerate(line) for mark, bit in zip(marks, bits) if bit]
    for start, piece in pieces:
        links = list(zip(piece, piece[1:])) + ([(piece[-1], piece[0])] if start == 2 else [])
        facts += [("link", columns[0], one, other) for one, other in links]
    return ("store", list(marks), list(columns), list(range(len(line))), sorted(facts))


def closed_questions(seed, many, marks, depth=4, size=14):
    """Questions without free names."""
    chance = random.Random(seed)
    return [random_question(chance, chance.randint(0, depth), [], size=size, signs=(marks, ["next"]))
            for _ in range(many)]


def conjunction(rows):
    whole = rows[0]
    for row in rows[1:]:
        whole = ("and", whole, row)
    return whole


def prefixed(words, names, inner):
    for word, name in list(zip(words, names))[::-1]:
        inner = (word, name, inner)
    return inner


def at_least(many, marks, more=()):
    """That there are so many items with these marks, and for which more holds in pairs."""
    names = "abcd"[:many]
    rows = [("not", ("same", one, other)) for one, other in combinations(names, 2)]
    rows += [("mark", mark, name) for name in names for mark in marks]
    rows += [make(one, other) for one in names for other in names if one != other for make in more]
    return prefixed(["some"] * many, names, conjunction(rows or [TRUE]))


class Reader:
    """Least machines of the parts of a question, made by the words of point [51], with tracks for all marks."""

    def __init__(self, marks):
        self.letters = all_letters(marks)
        self.marks = marks
        self.told = []

    def least(self, names, start, step, good):
        """The least machine of a step over letters and bits, as a dict of rows and the set of good states."""
        signs = [(letter, bits) for letter in self.letters for bits in product([0, 1], repeat=len(names))]
        met, rows = [start], {}
        known = {start}
        for state in met:
            rows[state] = [step(state, letter, dict(zip(names, bits))) for letter, bits in signs]
            for behind in rows[state]:
                if behind not in known:
                    known.add(behind)
                    met.append(behind)
        classes = {state: good(state) for state in met}
        many = 0
        while len(set(classes.values())) != many:
            many = len(set(classes.values()))
            keys = {state: (classes[state], tuple(classes[behind] for behind in rows[state])) for state in met}
            numbers = {}
            classes = {state: numbers.setdefault(keys[state], len(numbers)) for state in met}
        table = {classes[state]: {sign_key(letter, bits, names): classes[behind]
                                  for (letter, bits), behind in zip(signs, rows[state])} for state in met}
        goods = {classes[state] for state in met if good(state)}
        return (tuple(names), table, goods, classes[start]), len(met)

    def ones(self, names):
        def step(state, letter, bits):
            if state == "dead" or (state == "first" and letter[0] == 0):
                return "dead"
            seen = dict(state) if state != "first" else {}
            if any(bit and name in seen for name, bit in bits.items()):
                return "dead"
            return tuple(sorted({**seen, **{name: 1 for name, bit in bits.items() if bit}}.items()))
        return self.least(names, "first", step, lambda state: len(
            () if state == "first" else state) == len(names) and state != "dead")[0]

    def atom(self, one):
        names = sorted(set(free_names(one)))

        def step(state, letter, bits):
            started, dead, ring, counts, last, first, fine = state
            start, marked = letter
            dead = dead or (not started and start == 0)
            counts = tuple(min(2, count + bits[name]) for count, name in zip(counts, names))
            had = {name for name in names if bits[name]}
            if one[0] == "link":
                x, y = one[2:]
                if start != 0:
                    fine = fine or (ring and x in last and y in first)
                    ring, first = start == 2, frozenset(had)
                else:
                    fine = fine or (x in last and y in had)
                last = frozenset(had)
            elif one[0] == "mark":
                fine = fine or (one[2] in had and marked[self.marks.index(one[1])] == 1)
            elif one[0] == "same":
                fine = fine or set(one[1:]) <= had
            return (True, dead, ring, counts, last, first, fine)

        def good(state):
            started, dead, ring, counts, last, first, fine = state
            if dead or any(count != 1 for count in counts) or one == ("false",):
                return False
            if one[0] == "link":
                return fine or (ring and one[2] in last and one[3] in first)
            return fine or one == TRUE
        empty = frozenset()
        return self.least(names, (False, False, False, (0,) * len(names), empty, empty, False), step, good)[0]

    def joined(self, parts, names, flag):
        """The least machine of tuples of states of machines and of that of ones, and how many of them are met."""
        parts = [*parts, self.ones(names)]

        def step(states, letter, bits):
            return tuple(part[1][state][sign_key(letter, tuple(bits[name] for name in part[0]), part[0])]
                         for part, state in zip(parts, states))
        return self.least(names, tuple(part[3] for part in parts), step, lambda states: flag(
            [state in part[2] for part, state in zip(parts, states)]))

    def some(self, name, part):
        """The least machine of sets of states, and how many of them are met."""
        names = [other for other in part[0] if other != name]

        def step(states, letter, bits):
            return frozenset(part[1][state][sign_key(letter, tuple({**bits, name: bit}[other] for other in part[0]),
                                                     part[0])] for state in states for bit in (0, 1))
        return self.least(names, frozenset([part[3]]), step, lambda states: bool(states & part[2]))

    def made(self, question):
        """The least machine of a question; for each part how many are met and how many states it has are told."""
        word, names = question[0], free_names(question)
        met = 0
        if word in ("some", "all"):
            name, inner = question[1], self.made(question[2])
            wider = sorted({*inner[0], name})
            if word == "some":
                found, met = self.some(name, self.joined([inner], wider, all)[0])
            else:
                contrary, _ = self.joined([inner], wider, lambda flags: not flags[0] and flags[1])
                some, met = self.some(name, contrary)
                found, _ = self.joined([some], names, lambda flags: not flags[0] and flags[1])
        elif word == "not":
            found, met = self.joined([self.made(question[1])], names, lambda flags: not flags[0] and flags[1])
        elif word in ("and", "or"):
            call = all if word == "and" else any
            parts = [self.made(part) for part in question[1:]]
            found, met = self.joined(parts, names, lambda flags: call(flags[:2]) and flags[2])
        else:
            found = self.atom(question)
        self.told.append((met, len(found[1])))
        return found

    def too_many(self, most_met, most_states):
        """What TooMany tells for the first part that is beyond, None if there is none."""
        for met, states in self.told:
            if met > most_met:
                return most_met + 1
            if states > most_states:
                return states
        return None


def sign_key(letter, bits, names):
    return (letter, tuple(bits[name] for name in names) if isinstance(bits, dict) else bits)
