"""Points [27] to [29]: looking."""

import copy
import random
import unittest
from itertools import product

from samples import (
    Checks, chained, distances_of, junk, random_question, random_stores, reading, small_stores, stores_for_any_use)
from test_plain import NO_ITEMS, NO_QUESTIONS_OF_STORE, STORE

from depthquestions.codes import code_of
from depthquestions.errors import InvalidList, InvalidNumber, InvalidQuestion, InvalidStore
from depthquestions.looking import how_many_types, local_holds, looks, most_looks
from depthquestions.questions import depth, free_names
from depthquestions.radii import most_in_ball, near_radius, radius
from depthquestions.stores import led_from, led_to, store_of
from depthquestions.texts import read_question

TRUE, RED, NEXT = ("true",), ("mark", "red", "x"), ("link", "next", "x", "y")
FIVE_DEEP = ("some", "a", ("some", "b", ("all", "c", ("all", "d", ("some", "e", ("same", "a", "e"))))))


class Looker:
    """A store looked at by the words of the document."""

    def __init__(self, store):
        self.store = store
        self.known = distances_of(store)
        self.types = {}

    def types_at(self, level):
        """The types of a level in order, each with its items."""
        if level not in self.types:
            found = {}
            for item in self.store[3]:
                found.setdefault(code_of(self.store, (item,), radius(level)), []).append(item)
            self.types[level] = sorted(found.items())
        return self.types[level]

    def near(self, one, bound):
        """The items near to those of the others of a quantifier."""
        told = [bound[name] for name in free_names(one[2]) if name != one[1]]
        most = near_radius(depth(one[2]) + 1)
        return [item for item in self.store[3] if any(self.known.get((other, item), 99) <= most for other in told)]

    def far(self, one, bound):
        """For each type of its level that has some, the items that are not near."""
        near = self.near(one, bound)
        rows = [[item for item in items if item not in near] for _, items in self.types_at(depth(one[2]))]
        return [row for row in rows if row]

    def looked_at(self, one, bound):
        return self.near(one, bound) + [row[0] for row in self.far(one, bound)]

    def looks(self, one, bound):
        if one[0] in ("some", "all"):
            return sum(1 + self.looks(one[2], {**bound, one[1]: item}) for item in self.looked_at(one, bound))
        return sum(self.looks(part, bound) for part in one[1:] if isinstance(part, tuple))

    def most_looks(self, one):
        if one[0] in ("some", "all"):
            level, others = depth(one[2]), [name for name in free_names(one[2]) if name != one[1]]
            near = len(others) * most_in_ball(len(self.store[2]), near_radius(level + 1))
            return (near + len(self.types_at(level))) * (1 + self.most_looks(one[2]))
        return sum(self.most_looks(part) for part in one[1:] if isinstance(part, tuple))


def questions_for(seed, many, columns, size=14):
    """Questions with red, blue and so many columns whose depth and free names are within the limits."""
    chance = random.Random(seed)
    most = 3 if columns == 2 else 4
    signs = ([["red"], ["red", "blue"], []][seed % 3], ["next", "up"][:columns])
    found = []
    while len(found) < many:
        names = ["x", "y"][:chance.randint(0, 2)]
        question = random_question(chance, chance.randint(0, most - len(names)), names, size=size, signs=signs)
        if chance.random() < 0.3 and depth(question) + len(names) < most and "t" not in free_names(question):
            question = (chance.choice(["some", "all"]), "t", question)
        found.append(question)
    return found


def stores_with(columns, stores):
    """Those of the stores that have so many columns, with red and blue as marks."""
    names = ["next", "up"][:columns]
    return [("store", ["red", "blue"], names, items, facts) for _, marks, own, items, facts in stores
            if sorted(own) == names and not set(marks) - {"red", "blue"}]


def bindings_of(store, question):
    names = free_names(question)
    return [list(zip(names, row)) for row in product(store[3], repeat=len(names))]


class LocalHolds(Checks, unittest.TestCase):
    def test_each_form(self):
        inner = [TRUE, ("false",), RED, NEXT, ("same", "x", "y"), ("not", NEXT), ("and", NEXT, ("not", RED)),
                 ("or", RED, NEXT), ("some", "z", ("and", NEXT, ("link", "next", "y", "z"))),
                 ("all", "z", ("or", ("mark", "red", "z"), ("not", ("link", "next", "x", "z"))))]
        outer = inner + [(word, "x", part) for word in ("some", "all") for part in inner]
        outer += [(word, "y", part) for word in ("some", "all") for part in outer if "y" in free_names(part)]
        outer += [(word, "u", part) for word in ("some", "all") for part in inner]
        for store in small_stores() + [STORE]:
            for question in outer:
                for binding in bindings_of(store, question):
                    before = copy.deepcopy((store, question, binding))
                    found = local_holds(store, question, binding)
                    self.assertIs(found, reading(store, question, dict(binding)), (store, question, binding))
                    self.assertEqual(before, (store, question, binding))
        self.assertIs(local_holds(binding=[("x", 2)], question=RED, store=STORE), True)

    def test_without_items(self):
        for columns in range(3):
            empty = ("store", [], ["next", "up"][:columns], [], [])
            for level in range(4 if columns < 2 else 3):
                question = TRUE
                for at in range(level):
                    question = ("some", f"n{at}", question)
                self.assertIs(local_holds(empty, ("some", "x", question), []), False)
                self.assertIs(local_holds(empty, ("all", "x", ("not", question)), []), True)

    def test_many(self):
        for columns in range(3):
            stores = stores_with(columns, random_stores(60 + columns, 120, 8))
            self.assertGreater(len(stores), 20)
            for at, question in enumerate(questions_for(63 + columns, 120, columns)):
                for store in stores[at % 4::4][:6]:
                    for binding in bindings_of(store, question)[::3]:
                        self.assertIs(local_holds(store, question, binding), reading(store, question, dict(binding)))

    def test_more_items_of_a_type_than_are_near(self):
        asked = read_question("some y: (red(y) and not x = y and not next(x, y) and not next(y, x))")
        for many in range(1, 9):
            for ring in [False, True]:
                store = chained(many, ring=ring, marked=range(many))
                for item in range(many):
                    self.assertIs(local_holds(store, asked, [("x", item)]), reading(store, asked, {"x": item}))

    def test_names_that_are_not_near_to_one_another(self):
        asked = read_question("some y: (next(x, y) and not next(y, z)) and all y: (not next(z, y) or red(y))")
        store = chained(60, marked=range(0, 60, 2))
        for x, z in [(0, 59), (5, 6), (6, 6), (58, 1), (59, 1), (20, 40), (20, 41)]:
            self.assertIs(local_holds(store, asked, [("x", x), ("z", z)]), reading(store, asked, {"x": x, "z": z}))


class GreatStores(Checks, unittest.TestCase):
    """Stores whose answers can be told by walking the links."""

    def pieces(self, lengths, rings=()):
        """A store of paths of these lengths, then rings, with the first item of each marked."""
        facts, first = [], 0
        for at, many in enumerate([*lengths, *rings]):
            facts += chained(many, ring=at >= len(lengths), marked=[first], first=first)[4]
            first += many
        return ("store", ["red"], ["next"], list(range(first)), sorted(facts))

    def test_lengths_of_paths(self):
        alone = "some x: all y: (not next(x, y) and not next(y, x))"
        two = "some x: (all w: not next(w, x) and some y: (next(x, y) and all w: not next(y, w)))"
        three = ("some x: (all w: not next(w, x) and some y: (next(x, y) and some z: (next(y, z) "
                 "and all w: not next(z, w))))")
        rings = "some x: some y: some z: (next(x, y) and next(y, z) and next(z, x) and not x = y)"
        chance = random.Random(66)
        for kinds, rounds in [([1], []), ([2, 5], []), ([3, 4], [4]), ([1, 2, 3], [3]), ([4, 6], [3, 9]),
                              ([7], [1, 2])]:
            for many in [250, 1990]:
                lengths, around = [], []
                while sum(lengths) + sum(around) < many:
                    lengths.append(chance.choice(kinds))
                    around += [chance.choice(rounds)] if rounds and chance.random() < 0.3 else []
                store = self.pieces(lengths, around)
                for text, expected in [(alone, 1 in lengths), (two, 2 in lengths), (three, 3 in lengths),
                                       (rings, 3 in around)]:
                    self.assertIs(self.in_time(local_holds, store, read_question(text), []), expected, (text, many))

    def test_one_item_among_many(self):
        asked = read_question("some x: some y: some z: (next(x, y) and next(y, z) and red(x) and red(z))")
        every = read_question("all x: some y: (next(x, y) and all z: (not next(y, z) or not red(z) or not red(x)))")
        for many in [300, 2000]:
            for marked in [[0, 7, 14], [0, 7, 9], list(range(0, many, 3)), [many - 2, 0]]:
                store = chained(many, ring=True, marked=marked)
                expected = any((item + 2) % many in marked for item in marked)
                self.assertIs(self.in_time(local_holds, store, asked, []), expected)
                self.assertIs(self.in_time(local_holds, store, every, []), not expected)

    def test_free_names(self):
        store = chained(2000, marked=[3, 4, 1000])
        asked = read_question("some y: (next(x, y) and red(y) and some z: (next(y, z) and (red(z) or z = w)))")
        for x, w in [(2, 5), (3, 5), (3, 9), (999, 1001), (999, 1002), (1000, 1000), (1999, 0), (0, 1999)]:
            y, z = led_to(store, "next", x), led_to(store, "next", x + 1) if x < 1999 else None
            expected = y in (3, 4, 1000) and z is not None and (z in (3, 4, 1000) or z == w)
            self.assertIs(self.in_time(local_holds, store, asked, [("w", w), ("x", x)]), expected)
            self.assertLessEqual(self.in_time(looks, store, asked, [("w", w), ("x", x)]), most_looks(store, asked))

    def test_two_columns(self):
        many = 300
        links = [("link", "next", item, (item + 1) % many) for item in range(many)]
        links += [("link", "up", item, (item + 17) % many) for item in range(many)]
        square = read_question("all x: all y: (not next(x, y) or some z: up(x, z))")
        closed = read_question("all x: all y: all z: (not next(x, y) or not up(y, z) or not next(z, x))")
        for store, expected in [(store_of([], ["next", "up"], range_of(many), links), True),
                                (store_of([], ["next", "up"], range_of(many), links[:-1]), False)]:
            self.assertIs(self.in_time(local_holds, store, square, []), expected)
            self.assertEqual(expected, all(led_to(store, "up", item) is not None for item in range(many)))
            self.assertIs(self.in_time(local_holds, store, closed, []), True)
        back = [("link", "up", item, (item - 2) % many) if link[1] == "up" else link
                for item, link in zip([*range(many)] * 2, links)]
        self.assertIs(self.in_time(local_holds, store_of([], ["next", "up"], range_of(many), back), closed, []), False)

    def test_two_columns_and_two_thousand_items(self):
        many = 2000
        chance = random.Random(67)
        order = chance.sample(range(many), many)
        links = [("link", "next", item, (item + 1) % many) for item in range(many)]
        facts = links + [("link", "up", item, other) for item, other in enumerate(order)]
        store = store_of(["red"], ["next", "up"], range_of(many), facts)
        asked = read_question("some y: (next(x, y) and some z: (up(y, z) and z = x))")
        for item in [*range(5), *[led_from(store, "up", item) for item in range(5)]]:
            expected = led_to(store, "up", led_to(store, "next", item)) == item
            self.assertIs(self.in_time(local_holds, store, asked, [("x", item)]), expected)
        self.assertEqual(len(self.in_time(how_many_types, store, 3)), 3)


def range_of(many):
    return list(range(many))


class Looks(Checks, unittest.TestCase):
    def test_ordinary(self):
        path = chained(5)
        some = ("some", "y", NEXT)
        self.assert_same([looks(path, some, [("x", item)]) for item in range(5)], [3, 4, 4, 4, 3])
        self.assert_same(looks(path, ("some", "x", some), []), 1 + looks(path, some, [("x", 0)]) + 1 + looks(
            path, some, [("x", 1)]) + 1 + looks(path, some, [("x", 4)]))
        self.assert_same(looks(path, ("and", some, ("or", some, ("not", some))), [("x", 0)]), 9)
        self.assert_same(looks(path, ("some", "u", RED), [("x", 2)]), 4)
        self.assert_same(looks(path, ("some", "u", TRUE), []), 1)
        for atom in [TRUE, ("false",), RED, ("same", "x", "x"), ("link", "next", "x", "x"), ("not", RED)]:
            self.assert_same(looks(path, atom, [("x", 1)] if free_names(atom) else []), 0)
        self.assertEqual(looks(binding=[("x", 0)], question=some, store=path), 3)

    def test_many(self):
        for columns in range(3):
            stores = stores_with(columns, random_stores(70 + columns, 120, 9) + stores_for_any_use()[:5])
            for at, question in enumerate(questions_for(73 + columns, 100, columns, size=10)):
                store = stores[at % len(stores)]
                looker = Looker(store)
                most = most_looks(store, question)
                self.assert_same(most, looker.most_looks(question))
                for binding in bindings_of(store, question)[::7]:
                    found = looks(store, question, binding)
                    self.assert_same(found, looker.looks(question, dict(binding)))
                    self.assertLessEqual(found, most)

    def test_near_at_each_level(self):
        for level, reach in [(0, 1), (1, 3), (2, 9)]:
            inner = ("same", "x", "y")
            for at in range(level):
                inner = ("and", ("same", "x", "y"), ("some", f"n{at}", inner)) if at else ("some", "n0", inner)
            ring = chained(40, ring=True)
            self.assertEqual(depth(inner), level)
            part = sum(1 + looks(ring, inner, [("x", 0), ("y", item)]) for item in range(-reach % 40, 40))
            part += sum(1 + looks(ring, inner, [("x", 0), ("y", item)]) for item in range(reach + 2))
            self.assertEqual(looks(ring, ("some", "y", inner), [("x", 0)]), part)

    def test_many_looks(self):
        chance = random.Random(77)
        store = store_of(["a", "b", "c", "d"], ["next"], range_of(2000), [
            ("link", "next", item, (item + 1) % 2000) for item in range(2000)] + [
                ("mark", mark, item) for mark in "abcd" for item in range(2000) if chance.random() < 0.5])
        asked = read_question("all z: (" + " and ".join(["some w: (next(z, w) and not w = x)"] * 3) + " or next(z, x))")
        self.assertLess(10 ** 5, self.in_time(most_looks, store, asked))
        self.assertLess(most_looks(store, asked), 200000)
        self.assertLess(10 ** 5, self.in_time(looks, store, asked, [("x", 7)]))
        self.assertIs(self.in_time(local_holds, store, asked, [("x", 7)]), True)

    def test_errors_in_order(self):
        deep = [FIVE_DEEP, ("not", FIVE_DEEP), ("some", "z", FIVE_DEEP)]
        for call in [local_holds, looks]:
            for wrong in junk():
                self.fails(InvalidStore, wrong, call, wrong, ["no question"], ("no list",))
            for wrong in junk() + NO_QUESTIONS_OF_STORE + deep:
                self.fails(InvalidQuestion, wrong, call, STORE, wrong, ("no list",))
            right = [("x", 1), ("y", 2)]
            for wrong in [[], [("x", 1)], right[::-1], right + [("z", 1)], tuple(right), dict(right), None,
                          [None, None],
                          *[[("x", 1), ("y", item)] for item in NO_ITEMS]]:
                self.fails(InvalidList, wrong, call, STORE, NEXT, wrong)
            self.fails(InvalidQuestion, RED, call, ("store", [], ["next"], [1], []), RED, [("x", 1)])
        for wrong in junk():
            self.fails(InvalidStore, wrong, most_looks, wrong, ["no question"])
        for wrong in junk() + NO_QUESTIONS_OF_STORE + deep:
            self.fails(InvalidQuestion, wrong, most_looks, STORE, wrong)


class Numbers(Checks, unittest.TestCase):
    def test_how_many_types(self):
        self.assert_same(how_many_types(STORE, 0), [])
        self.assert_same([how_many_types(chained(30), depth) for depth in range(5)],
                         [[], [1], [1, 3], [1, 3, 9], [1, 3, 9, 27]])
        self.assertEqual(how_many_types(depth=2, store=("store", [], [], [1, 2], [])), [1, 1])
        self.assertEqual(how_many_types(("store", [], [], [], []), 4), [0, 0, 0, 0])
        for store in random_stores(76, 60, 9):
            looker = Looker(store)
            for most in range(5):
                expected = [len(looker.types_at(level)) for level in range(most)]
                found = how_many_types(store, most)
                self.assert_same(found, expected)

    def test_most_looks(self):
        path = chained(5)
        some = ("some", "y", NEXT)
        for question, expected in [
                (TRUE, 0), (RED, 0), (some, 4), (("not", some), 4), (("and", some, some), 8), (("or", some, RED), 4),
                (("some", "x", some), 15), (("all", "x", ("not", some)), 15), (("some", "u", TRUE), 1),
                (("some", "z", ("and", some, ("same", "x", "z"))), (7 + 3) * (1 + 4)),
                (("some", "z", ("and", NEXT, ("same", "x", "z"))), 2 * 3 + 1)]:
            self.assert_same(most_looks(path, question), expected)
        self.assertEqual(most_looks(question=some, store=path), 4)
        self.assertEqual(most_looks(("store", [], ["n", "m"], [1], []), ("some", "y", ("same", "x", "y"))), 6)
        self.assertEqual(most_looks(("store", [], [], [1, 2], []), ("some", "y", ("same", "x", "y"))), 2)

    def test_errors(self):
        for wrong in junk():
            self.fails(InvalidStore, wrong, how_many_types, wrong, -1)
        for wrong in [-1, 5, True, False, None, "1", (1,), [1], {}, 10 ** 29, InvalidNumber(1)]:
            self.fails(InvalidNumber, wrong, how_many_types, STORE, wrong)


class Example(unittest.TestCase):
    def test_example(self):
        three = ("store", ["red"], ["next"], [1, 2, 3], [
            ("link", "next", 1, 2), ("link", "next", 2, 3), ("mark", "red", 3)])
        last = ("not", ("some", "y", ("link", "next", "x", "y")))
        every = ("all", "x", ("or", ("mark", "red", "x"), ("some", "y", ("link", "next", "x", "y"))))
        self.assertEqual(
            [local_holds(three, last, [("x", 3)]), local_holds(three, last, [("x", 2)]), local_holds(three, every, []),
             how_many_types(three, 2)],
            [True, False, True, [2, 3]])
        self.assertEqual(
            [looks(three, last, [("x", 3)]), most_looks(three, last), looks(three, every, []),
             most_looks(three, every)],
            [3, 5, 12, 18])


if __name__ == "__main__":
    unittest.main()
