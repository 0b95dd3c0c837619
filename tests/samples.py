"""What several tests share: values that are nothing special, stores, questions, and a reading of its own."""

import copy
import random
import time
from itertools import product

from depthquestions.errors import InvalidStore, NothingToUndo

RESERVED = "all and false in link mark not or same some true".split()
MOST = 10 ** 9


def deep_list(many):
    value = []
    for _ in range(many):
        value = [value]
    return value


def junk():
    """Values that are neither words, stores, questions, lists of words nor texts."""
    return [
        None, True, False, 0, 1, -1, 10 ** 29, "", "?", "Red", (), [[]], [None], (1,), ("store",), ("true", 1),
        ("some", "x"), ("maybe",), ["true"], {}, {"a": 1}, {1: [2]}, deep_list(28), ("not", deep_list(20)),
        InvalidStore(3), NothingToUndo(), [True], (None, [])]


def stores_for_any_use():
    """Stores with no, some and many items, marks, columns and facts."""
    return [
        ("store", [], [], [], []),
        ("store", ["red"], ["next"], [], []),
        ("store", [], [], [7], []),
        ("store", ["red"], ["next"], [0], [("link", "next", 0, 0), ("mark", "red", 0)]),
        ("store", ["red"], ["next"], [1, 2, 4], [
            ("link", "next", 1, 2), ("link", "next", 2, 4), ("mark", "red", 1)]),
        ("store", ["red", "blue"], ["next", "up"], [0, 3, 10 ** 9], [
            ("link", "next", 0, 3), ("link", "next", 3, 0), ("link", "up", 3, 3), ("link", "up", 10 ** 9, 0),
            ("mark", "blue", 3), ("mark", "red", 0), ("mark", "red", 3)]),
    ]


def small_stores():
    """All stores with up to two items, one mark and one column."""
    found = []
    for many in range(3):
        items = list(range(many))
        facts = [("link", "next", one, other) for one in items for other in items]
        facts += [("mark", "red", item) for item in items]
        for flags in product([0, 1], repeat=len(facts)):
            chosen = [fact for fact, flag in zip(facts, flags) if flag]
            links = [fact for fact in chosen if fact[0] == "link"]
            if len({link[2] for link in links}) == len({link[3] for link in links}) == len(links):
                found.append(("store", ["red"], ["next"], items, chosen))
    return found


def random_store(chance, marks, columns, many, most=30):
    """A store with so many items, with few or many marks and links: rings, paths, pieces, items alone."""
    items = sorted(chance.sample(range(most), many))
    facts = []
    share = chance.choice([0, 0.4, 0.8, 1])
    for column in columns:
        others = items[1:] + items[:1] if chance.random() < 0.4 else chance.sample(items, many)
        facts += [("link", column, one, other) for one, other in zip(items, others) if chance.random() < share]
    share = chance.choice([0, 0.2, 0.5])
    facts += [("mark", mark, item) for mark in marks for item in items if chance.random() < share]
    return ("store", list(marks), list(columns), items, sorted(facts))


def random_stores(seed, many, most_items, most=30):
    """Stores with up to two marks and columns and so many items."""
    chance = random.Random(seed)
    signs = [(marks, columns) for marks in [[], ["red"], ["red", "blue"]] for columns in [[], ["next"], ["up", "next"]]]
    return [random_store(chance, *signs[at % len(signs)], chance.randint(0, most_items), most) for at in range(many)]


def chained(many, ring=False, marked=(), first=0):
    """A row of so many items, or a ring, some of them marked."""
    items = list(range(first, first + many))
    links = list(zip(items, items[1:] + (items[:1] if ring else [])))
    facts = [("link", "next", one, other) for one, other in links] + [("mark", "red", item) for item in marked]
    return ("store", ["red"], ["next"], items, sorted(facts))


def pieces_store(seed, many, kinds, marks=("red", "blue"), columns=("next",)):
    """A store with so many items in copies of some short rows and rings, whose items have marks of all kinds."""
    chance = random.Random(seed)
    shapes = [(chance.choice([1, 2, 3, 4, 5, 6]), chance.random() < 0.3) for _ in range(kinds)]
    shapes = [(size, ring, [[mark for mark in marks if chance.random() < 0.4] for _ in range(size)])
              for size, ring in shapes]
    items, facts = [], []
    while len(items) < many:
        size, ring, bits = chance.choice(shapes)
        own = list(range(len(items), min(len(items) + size, many)))
        items += own
        for at, column in enumerate(columns):
            links = list(zip(own, own[1:] + (own[:1] if ring else [])))
            facts += [("link", column, one, other) for one, other in links[at:]]
        facts += [("mark", mark, item) for item, told in zip(own, bits) for mark in told]
    return ("store", list(marks), list(columns), items, sorted(facts))


def distances_of(store):
    """The distances of all pairs of items that have one, as a dict, shortened through each item in turn."""
    items = store[3]
    found = {(item, item): 0 for item in items}
    for fact in store[4]:
        if fact[0] == "link" and fact[2] != fact[3]:
            found[fact[2], fact[3]] = found[fact[3], fact[2]] = 1
    for by in items:
        for one in items:
            for other in items:
                if (one, by) in found and (by, other) in found:
                    way = found[one, by] + found[by, other]
                    found[one, other] = min(way, found.get((one, other), way))
    return found


def full_store():
    """A store with as much in it as may be: 2,000 items, four marks, two columns, all of each."""
    items = list(range(MOST - 1999, MOST + 1))
    marks = ["a" * 30, "b" * 30, "c" * 30, "d" * 30]
    facts = [("link", column, one, items[(at * 7 + 1) % 2000])
             for column in ["up", "x" * 30] for at, one in enumerate(items)]
    facts += [("mark", mark, item) for mark in marks for item in items]
    return ("store", marks, ["up", "x" * 30], items, sorted(facts))


def random_question(chance, depth, names, around=(), size=12, signs=(["red"], ["next"])):
    """A question whose names are among these or bound within, with quantifiers to a depth."""
    known = [*names, *around]
    marks, columns = signs
    atoms = (["mark"] if marks else []) + (["link"] if columns else []) + ["same"]
    words = ["true", "false", "not", "and", "or"]
    if known:
        words += atoms * 3
    if depth > 0:
        words += ["some", "all"] * 2
    word = chance.choice(words)
    if size <= 1 and word in ("not", "and", "or", "some", "all"):
        word = chance.choice(atoms) if known else "true"
    if word in ("true", "false"):
        return (word,)
    if word == "mark":
        return ("mark", chance.choice(marks), chance.choice(known))
    if word == "link":
        return ("link", chance.choice(columns), chance.choice(known), chance.choice(known))
    if word == "same":
        return ("same", chance.choice(known), chance.choice(known))
    if word == "not":
        return ("not", random_question(chance, depth, names, around, size - 1, signs))
    if word in ("and", "or"):
        half = (size - 1) // 2
        return (word, random_question(chance, depth, names, around, half, signs),
                random_question(chance, depth, names, around, size - 1 - half, signs))
    free = [name for name in ["u", "v", "w", "uu", "vv"] if name not in known]
    name = chance.choice(free)
    return (word, name, random_question(chance, depth - 1, names, (*around, name), size - 1, signs))


def random_questions(seed, many, depth=2, names=("x", "y"), size=12):
    chance = random.Random(seed)
    return [random_question(chance, depth, names, size=size) for _ in range(many)]


def reading(store, question, bound):
    """Whether a question holds, in the words of the document, with a dict of what is bound."""
    _, _, _, items, facts = store
    match question:
        case ("true",):
            return True
        case ("false",):
            return False
        case ("mark", mark, x):
            return ("mark", mark, bound[x]) in facts
        case ("link", column, x, y):
            return ("link", column, bound[x], bound[y]) in facts
        case ("same", x, y):
            return bound[x] == bound[y]
        case ("not", p):
            return not reading(store, p, bound)
        case ("and", p, q):
            return reading(store, p, bound) and reading(store, q, bound)
        case ("or", p, q):
            return reading(store, p, bound) or reading(store, q, bound)
        case ("some", x, p):
            return any(reading(store, p, {**bound, x: item}) for item in items)
        case ("all", x, p):
            return all(reading(store, p, {**bound, x: item}) for item in items)


def lists_within(value):
    """All list objects within a value, itself among them, each as often as it occurs."""
    found = [value] if isinstance(value, list) else []
    if isinstance(value, (list, tuple)):
        for part in value:
            found += lists_within(part)
    return found


class Checks:
    """What the tests of several modules ask."""

    def fails(self, error, value, call, *given, **named):
        """A call raises just this error with this very value, and leaves what was handed in as it was."""
        before = copy.deepcopy((given, named))
        with self.assertRaises(error) as caught:
            call(*given, **named)
        self.assertIs(type(caught.exception), error)
        self.assertIs(caught.exception.value, value)
        self.assert_like(before, (given, named))

    def fails_with(self, error, value, call, *given, **named):
        """A call raises just this error with a value equal to this one."""
        with self.assertRaises(error) as caught:
            call(*given, **named)
        self.assertIs(type(caught.exception), error)
        self.assert_same(caught.exception.value, value)

    def assert_like(self, one, other):
        """Two values are equal, but for errors, which are equal to nothing but themselves."""
        self.assertEqual(repr(one), repr(other))

    def assert_same(self, one, other):
        """Two values are equal and of the same kinds, deep within too."""
        self.assertEqual(one, other)
        self.assertEqual(repr(one), repr(other))

    def assert_new_lists(self, result, *given):
        """No list occurs twice in a result, and none in what was handed in."""
        own = [id(part) for part in lists_within(result)]
        self.assertEqual(len(own), len(set(own)))
        old = {id(part) for value in given for part in lists_within(value)}
        self.assertEqual(old & set(own), set())

    def in_time(self, call, *given):
        """A call answers within seconds; its result is returned."""
        start = time.monotonic()
        result = call(*given)
        self.assertLess(time.monotonic() - start, 10)
        return result
