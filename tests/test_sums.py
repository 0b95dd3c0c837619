"""Points [44] to [48]: unions of told pieces."""

import copy
import random
import unittest
from itertools import permutations, product

from samples import Checks, junk, random_question, random_store, reading
from test_plain import NO_QUESTIONS_OF_STORE

from depthquestions.errors import InvalidList, InvalidNumber, InvalidQuestion, TooMany
from depthquestions.plain import holds, how_many_plain
from depthquestions.questions import depth, free_names
from depthquestions.stores import is_store
from depthquestions.sums import cuts, enough, holds_in_union, how_many_in_union, parting_counts, union
from depthquestions.texts import read_question

LONE = ("store", ["red"], ["next"], [4], [])
PAIR = ("store", ["red"], ["next"], [1, 5], [("link", "next", 1, 5), ("mark", "red", 5)])
LOOP = ("store", ["red"], ["next"], [7], [("link", "next", 7, 7)])
RING = ("store", ["red"], ["next"], [0, 2, 3, 9], [
    ("link", "next", 0, 2), ("link", "next", 2, 3), ("link", "next", 3, 9), ("link", "next", 9, 0), ("mark", "red", 2)])
EMPTY = ("store", ["red"], ["next"], [], [])
TWO = ("some", "u", ("some", "v", ("and", ("mark", "red", "u"), ("and", ("mark", "red", "v"), (
    "not", ("same", "u", "v"))))))
BARE = ("some", "u", ("all", "v", ("and", ("not", ("link", "next", "u", "v")), ("not", ("link", "next", "v", "u")))))
APART = ("and", ("mark", "red", "x"), ("and", ("mark", "red", "y"), ("not", ("same", "x", "y"))))
TRUE, RED = ("true",), ("mark", "red", "x")
MOST_COPIES = 10 ** 30 - 1
FIVE = ("store", ["red"], ["next"], [1, 2, 3, 4, 5], [])
NO_PIECES = [
    *junk(), [LONE, FIVE], [FIVE], [LONE] * 4, (LONE,), [LONE, None], [LONE, ("store", ["red"], ["next"], [4])], LONE,
    [LONE, ("store", ["red"], [], [4], [])], [LONE, ("store", [], ["next"], [4], [])],
    [LONE, ("store", ["blue"], ["next"], [4], [])], [LONE, LONE, ("store", ["red", "blue"], ["next"], [4], [])],
    [("store", ["a", "b"], [], [], []), ("store", ["b", "a"], [], [], [])],
    [("store", [], ["a", "b"], [], []), ("store", [], ["b", "a"], [], [])], [[LONE]]]
NO_COUNTS = [None, [], [1], [1, 1, 1], (1, 1), [1, -1], [True, 1], [1, False], [1, None], [1, "1"], [10 ** 30, 0],
             [0, 10 ** 30], {0: 1, 1: 1}, "11", 2, [[1, 1]], [1, [1]]]


def told_union(pieces, counts):
    """A union, by the words of the document."""
    facts, many = [], 0
    for piece, count in zip(pieces, counts):
        for _ in range(count):
            for fact in piece[4]:
                facts.append((*fact[:2], *[many + piece[3].index(item) for item in fact[2:]]))
            many += len(piece[3])
    return ("store", pieces[0][1], pieces[0][2], list(range(many)), sorted(facts))


def some_pieces(chance, most_items=3):
    marks, columns = chance.choice([([], []), (["red"], []), ([], ["next"]), (["red"], ["next"]),
                                    (["red", "blue"], ["up", "next"])])
    return [random_store(chance, marks, columns, chance.randint(0, most_items))
            for _ in range(chance.randint(1, 3))]


def closed(chance, pieces, deep, size=12):
    return random_question(chance, deep, [], size=size, signs=pieces[0][1:3])


def wrong_questions():
    """What is no question of the pieces without free names."""
    return junk() + NO_QUESTIONS_OF_STORE + [RED, ("some", "y", RED), ("same", "x", "x"), ("and", TRUE, APART)]


class Union(Checks, unittest.TestCase):
    def test_ordinary(self):
        self.assert_same(union([LONE], [0]), ("store", ["red"], ["next"], [], []))
        self.assert_same(union(counts=[2], pieces=[LONE]), ("store", ["red"], ["next"], [0, 1], []))
        self.assert_same(union([EMPTY, LOOP, EMPTY], [5, 2, 1]), ("store", ["red"], ["next"], [0, 1], [
            ("link", "next", 0, 0), ("link", "next", 1, 1)]))

    def test_many(self):
        chance = random.Random(270)
        for _ in range(300):
            pieces = some_pieces(chance, 4)
            counts = [chance.randint(0, 4) for _ in pieces]
            before = copy.deepcopy((pieces, counts))
            found = union(pieces, counts)
            self.assertTrue(is_store(found))
            self.assert_same(found, told_union(pieces, counts))
            self.assert_new_lists(found, pieces, counts)
            self.assert_same((pieces, counts), before)

    def test_too_many(self):
        self.assertEqual(len(self.in_time(union, [RING], [500])[3]), 2000)
        self.fails_with(TooMany, 2001, union, [RING, LONE], [500, 1])
        self.fails_with(TooMany, 2004, union, [RING, LONE], [501, 0])
        self.fails_with(TooMany, 7 * MOST_COPIES, union, [RING, LONE, PAIR], [MOST_COPIES] * 3)
        self.assert_same(self.in_time(union, [EMPTY, LONE, EMPTY], [MOST_COPIES, 1, 10 ** 29]), (
            "store", ["red"], ["next"], [0], []))

    def test_errors(self):
        for wrong in NO_PIECES:
            self.fails(InvalidList, wrong, union, wrong, None)
        for wrong in NO_COUNTS:
            self.fails(InvalidList, wrong, union, [LONE, PAIR], wrong)


class HoldsInUnion(Checks, unittest.TestCase):
    def test_many(self):
        chance = random.Random(271)
        for _ in range(400):
            pieces = some_pieces(chance)
            question = closed(chance, pieces, chance.randint(0, 3))
            counts = [chance.randint(0, 5 if depth(question) < 3 else 4) for _ in pieces]
            store = told_union(pieces, counts)
            if len(store[3]) ** depth(question) <= 3000:
                before = copy.deepcopy((question, pieces, counts))
                self.assertIs(holds_in_union(question, pieces, counts), reading(store, question, {}))
                self.assert_same((question, pieces, counts), before)

    def test_great_counts(self):
        for counts, expected in [([0, 10 ** 29], True), ([10 ** 29, 0], False), ([10 ** 29, 1], False),
                                 ([0, 2], True), ([MOST_COPIES, MOST_COPIES], True), ([0, 1], False)]:
            self.assertIs(self.in_time(holds_in_union, TWO, [LONE, PAIR], counts), expected)
        self.assertIs(holds_in_union(counts=[10 ** 29], pieces=[EMPTY], question=("some", "u", TRUE)), False)
        self.assertIs(holds_in_union(("all", "u", ("false",)), [EMPTY, EMPTY], [MOST_COPIES, 3]), True)
        self.assertIs(holds_in_union(("true",), [LONE], [MOST_COPIES]), True)

    def test_as_many_copies_as_the_depth(self):
        for many in range(1, 4):
            names = [f"n{at}" for at in range(many)]
            question = TRUE
            for one, other in product(names, repeat=2):
                if one < other:
                    question = ("and", question, ("not", ("same", one, other)))
            for name in names[::-1]:
                question = ("some", name, question)
            for count in range(6):
                self.assertIs(holds_in_union(question, [LONE], [count]), count >= many)
                self.assertIs(holds_in_union(question, [EMPTY, LOOP], [count, count]), count >= many)

    def test_limits(self):
        rings = [RING, ("store", ["red"], ["next"], [1, 2, 3, 4], [("mark", "red", 1)]), ("store", ["red"], ["next"], [
            1, 2, 3, 4], [("link", "next", 1, 2), ("link", "next", 2, 3)])]
        for text in ["all u: some v: all w: (not next(v, w) or next(u, v) or not w = u and not red(v))",
                     "some u: some v: some w: (next(u, v) and next(v, w) and next(w, u))",
                     "all u: all v: all w: (not (next(u, v) and next(v, w)) or not w = u)"]:
            question = read_question(text)
            expected = holds(told_union(rings, [3, 3, 3]), question, [])
            self.assertIs(self.in_time(holds_in_union, question, rings, [MOST_COPIES, 10 ** 20, 7]), expected)


class Cuts(Checks, unittest.TestCase):
    def told(self, question, pieces):
        return [row for row in product(range(depth(question) + 1), repeat=len(pieces))
                if reading(told_union(pieces, row), question, {})]

    def test_many(self):
        chance = random.Random(272)
        for _ in range(200):
            pieces = some_pieces(chance, 2)
            question = closed(chance, pieces, chance.randint(0, 3 if len(pieces) < 3 else 2), size=10)
            before = copy.deepcopy((question, pieces))
            found = cuts(question, pieces)
            self.assert_same(found, self.told(question, pieces))
            self.assert_new_lists([found, cuts(question, pieces)], question, pieces)
            for at in range(len(pieces)):
                self.assert_same(enough(question, pieces, at), self.told_enough(question, pieces, found, at))
            self.assert_same((question, pieces), before)
        self.assertEqual(cuts(pieces=[LONE], question=("some", "u", TRUE)), [(1,)])
        self.assertEqual(enough(at=0, pieces=[LONE], question=("some", "u", TRUE)), 1)

    def told_enough(self, question, pieces, found, at):
        """From how many copies on nothing changes, with each count below twice the depth."""
        deep = depth(question)
        rows = [[tuple(min(count, deep) for count in (*other[:at], many, *other[at:])) in found
                 for other in product(range(deep + 1), repeat=len(pieces) - 1)] for many in range(2 * deep + 2)]
        return min(least for least in range(2 * deep + 2) if all(row == rows[least] for row in rows[least:]))

    def test_pieces_that_tell_nothing(self):
        self.assertEqual([enough(TWO, [EMPTY, PAIR], at) for at in range(2)], [0, 2])
        self.assertEqual(cuts(TWO, [EMPTY, PAIR]), [(0, 2), (1, 2), (2, 2)])
        self.assertEqual(cuts(TRUE, [LONE, LONE, LONE]), [(0, 0, 0)])
        self.assertEqual(cuts(("false",), [LONE]), [])
        self.assertEqual(enough(("all", "u", ("mark", "red", "u")), [LONE, PAIR, EMPTY], 0), 1)

    def test_both_changes_count(self):
        one = read_question("some u: all v: v = u")
        self.assertEqual(cuts(one, [LONE, LOOP]), [(0, 1), (1, 0)])
        self.assertEqual([enough(one, [LONE, LOOP], at) for at in range(2)], [2, 2])

    def test_too_many(self):
        deep = ("some", "u", ("some", "v", ("some", "w", TRUE)))
        for call in [cuts, lambda question, pieces: enough(question, pieces, 0),
                     lambda question, pieces: parting_counts(question, TRUE, pieces),
                     lambda question, pieces: parting_counts(TRUE, question, pieces)]:
            self.fails_with(TooMany, 64, call, deep, [LONE] * 3)
            self.in_time(call, deep, [LONE] * 2)
            self.in_time(call, ("some", "u", ("some", "v", TRUE)), [LONE] * 3)
        self.assertEqual(len(cuts(("some", "u", ("some", "v", TRUE)), [LONE] * 3)), 26)

    def test_errors(self):
        for wrong in NO_PIECES:
            self.fails(InvalidList, wrong, cuts, None, wrong)
            self.fails(InvalidList, wrong, enough, None, wrong, None)
        for wrong in wrong_questions():
            self.fails(InvalidQuestion, wrong, cuts, wrong, [LONE] * 3)
            self.fails(InvalidQuestion, wrong, enough, wrong, [LONE] * 3, -1)
        deep = ("some", "u", ("some", "v", ("some", "w", TRUE)))
        for wrong in [-1, 3, True, False, None, "0", (0,), [0], {}, 10 ** 29]:
            self.fails(InvalidNumber, wrong, enough, deep, [LONE] * 3, wrong)
        self.fails(InvalidNumber, 1, enough, TRUE, [LONE], 1)

    def test_limits(self):
        question = read_question("all u: some v: all w: (not next(v, w) or next(u, v) or not w = u and not red(v))")
        self.in_time(cuts, question, [RING, ("store", ["red"], ["next"], [1, 2, 3, 4], [])])
        question = read_question("all u: some v: ((next(u, v) or next(v, u)) and not red(u) or red(v) and not u = v)")
        pieces = [RING, ("store", ["red"], ["next"], [1, 2, 3, 4], []), PAIR]
        for at in range(3):
            self.in_time(enough, question, pieces, at)
        self.in_time(parting_counts, question, TWO, pieces)


class PartingCounts(Checks, unittest.TestCase):
    def told(self, one, other, pieces):
        deep = max(depth(one), depth(other))
        rows = [row for row in product(range(deep + 1), repeat=len(pieces))
                if reading(told_union(pieces, row), one, {}) != reading(told_union(pieces, row), other, {})]
        return min((sum(count * len(piece[3]) for count, piece in zip(row, pieces)), list(row)) for row in rows)[
            1] if rows else None

    def test_many(self):
        chance = random.Random(273)
        found = []
        for _ in range(250):
            pieces = some_pieces(chance, 2)
            one, other = [closed(chance, pieces, chance.randint(0, 2), size=8) for _ in range(2)]
            found.append(parting_counts(one, other, pieces))
            self.assert_same(found[-1], self.told(one, other, pieces))
            self.assertIsNone(parting_counts(one, ("not", ("not", one)), pieces))
        self.assertGreater(found.count(None), 20)
        self.assertGreater(len([row for row in found if row and sum(row) > 0]), 20)

    def test_fewest_items_first(self):
        some, none = ("some", "u", ("mark", "red", "u")), ("false",)
        self.assertEqual(parting_counts(some, none, [RING, PAIR]), [0, 1])
        self.assertEqual(parting_counts(some, none, [PAIR, RING]), [1, 0])
        self.assertEqual(parting_counts(some, none, [EMPTY, PAIR]), [0, 1])
        self.assertEqual(parting_counts(pieces=[RING, RING], other=none, one=some), [0, 1])
        self.assertEqual(parting_counts(TRUE, none, [LONE]), [0])
        two = read_question("some u: some v: (not u = v and not next(u, v) and not next(v, u))")
        self.assertEqual(parting_counts(two, none, [RING, LONE]), [0, 2])
        self.assertEqual(parting_counts(two, none, [LONE, RING]), [2, 0])
        self.assertEqual(parting_counts(two, none, [LONE, LOOP]), [0, 2])

    def test_errors_in_order(self):
        for wrong in NO_PIECES:
            self.fails(InvalidList, wrong, parting_counts, None, None, wrong)
        for wrong in wrong_questions():
            self.fails(InvalidQuestion, wrong, parting_counts, wrong, None, [LONE] * 3)
            self.fails(InvalidQuestion, wrong, parting_counts, TRUE, wrong, [LONE] * 3)


class HowManyInUnion(Checks, unittest.TestCase):
    def test_many(self):
        chance = random.Random(274)
        for _ in range(500):
            pieces = some_pieces(chance)
            names = chance.sample(["x", "y"], chance.randint(1, 2))
            question = random_question(chance, chance.randint(0, 3 - len(names)), names, size=10,
                                       signs=pieces[0][1:3])
            counts = [chance.randint(0, 4) for _ in pieces]
            store = told_union(pieces, counts)
            if len(store[3]) <= 14:
                before = copy.deepcopy((question, names, pieces, counts))
                self.assert_same(how_many_in_union(question, names, pieces, counts), len(
                    [row for row in product(store[3], repeat=len(names))
                     if reading(store, question, dict(zip(names, row)))]))
                self.assert_same((question, names, pieces, counts), before)

    def test_great_counts(self):
        many = 10 ** 20
        pieces = [LONE, PAIR]
        for counts in [[3, many], [0, MOST_COPIES], [MOST_COPIES, 0], [MOST_COPIES, MOST_COPIES], [many, 1]]:
            lone, pair = counts
            items = lone + 2 * pair
            for text, names, expected in [
                    ("red(x)", ["x"], pair), ("not red(x)", ["x"], lone + pair), ("x = y", ["x", "y"], items),
                    ("not x = y", ["x", "y"], items * (items - 1)), ("next(x, y)", ["y", "x"], pair),
                    ("red(x) and red(y) and not x = y", ["x", "y"], pair * (pair - 1)),
                    ("red(x) and not red(y) and not next(y, x)", ["x", "y"], pair * (lone + pair - 1)),
                    ("some z: (next(x, z) and next(y, z))", ["x", "y"], pair),
                    ("some z: (red(z) and not next(x, z) and not z = x)", ["x"],
                     items * pair - 2 * pair if pair < 2 else items)]:
                self.assert_same(self.in_time(how_many_in_union, read_question(text), names, pieces, counts), expected)
        self.assertEqual(how_many_in_union(counts=[many, 2, 0], pieces=[EMPTY, LONE, PAIR], names=["x"], question=TRUE), 2)

    def test_names_that_bind_nothing(self):
        inner = ("some", "x", RED)
        for names, question, counts, expected in [
                (["x"], inner, [3, 1], 5), (["x"], inner, [3, 0], 0), (["y", "x"], inner, [3, 1], 25),
                (["x", "z"], RED, [3, 1], 5), (["z", "x"], RED, [3, 2], 14),
                (["x", "y"], ("some", "y", ("link", "next", "x", "y")), [1, 2], 10),
                (["y", "x"], ("some", "y", ("link", "next", "x", "y")), [1, 2], 10), (["a", "b"], TRUE, [0, 0], 0)]:
            self.assertEqual(how_many_in_union(question, names, [LONE, PAIR], counts), expected)
            self.assertEqual(how_many_plain(told_union([LONE, PAIR], counts), question, names), expected)

    def test_errors_in_order(self):
        for wrong in NO_PIECES:
            self.fails(InvalidList, wrong, how_many_in_union, None, None, wrong, None)
        for wrong in junk() + NO_QUESTIONS_OF_STORE:
            self.fails(InvalidQuestion, wrong, how_many_in_union, wrong, None, [LONE, PAIR], None)
        for wrong in [[], ["y"], ["x", "y", "z"], ["x", "x"], ("x",), None, "x", ["x", "in"], ["x", 1], {"x": 1}, [["x"]],
                      True, ["X", "x"]]:
            self.fails(InvalidList, wrong, how_many_in_union, RED, wrong, [LONE, PAIR], None)
        for wrong in [["x"], ["y"], ["x", "z"], []]:
            self.fails(InvalidList, wrong, how_many_in_union, APART, wrong, [LONE, PAIR], [1])
        for wrong in NO_COUNTS:
            self.fails(InvalidList, wrong, how_many_in_union, RED, ["x"], [LONE, PAIR], wrong)
            self.fails(InvalidList, wrong, holds_in_union, TWO, [LONE, PAIR], wrong)

    def test_errors_of_holds_in_union(self):
        for wrong in NO_PIECES:
            self.fails(InvalidList, wrong, holds_in_union, None, wrong, None)
        for wrong in wrong_questions():
            self.fails(InvalidQuestion, wrong, holds_in_union, wrong, [LONE, PAIR], None)

    def test_limits(self):
        pieces = [RING, ("store", ["red"], ["next"], [1, 2, 3, 4], [("mark", "red", 1)]), ("store", ["red"], ["next"], [
            1, 2, 3, 4], [("link", "next", 1, 2), ("link", "next", 2, 3)])]
        counts = [MOST_COPIES, 10 ** 20, 3]
        for text, names in [("all z: some w: (not w = x and (next(z, w) or red(w) and not next(x, z)))", ["x"]),
                            ("some z: (next(x, z) and not next(y, z) and not z = y or red(z) and not z = x)", ["x", "y"])]:
            for order in permutations(names):
                question = read_question(text)
                self.assertEqual(free_names(question), sorted(names))
                self.in_time(how_many_in_union, question, list(order), pieces, counts)


class Example(unittest.TestCase):
    def test_example(self):
        lone, pair, two, bare, apart = LONE, PAIR, TWO, BARE, APART
        self.assertEqual(union([lone, pair], [1, 2]), ("store", ["red"], ["next"], [0, 1, 2, 3, 4], [
            ("link", "next", 1, 2), ("link", "next", 3, 4), ("mark", "red", 2), ("mark", "red", 4)]))
        self.assertEqual(
            [cuts(two, [lone, pair]), enough(two, [lone, pair], 0), enough(two, [lone, pair], 1),
             holds_in_union(two, [lone, pair], [0, 10 ** 29])],
            [[(0, 2), (1, 2), (2, 2)], 0, 2, True])
        self.assertEqual(
            [cuts(bare, [lone, pair]), parting_counts(two, bare, [lone, pair]),
             parting_counts(two, ("and", two, ("true",)), [lone, pair])],
            [[(1, 0), (1, 1), (1, 2), (2, 0), (2, 1), (2, 2)], [1, 0], None])
        self.assertEqual(
            [how_many_in_union(apart, ["x", "y"], [lone, pair], [3, 10 ** 20]),
             how_many_in_union(("some", "z", ("link", "next", "x", "z")), ["x"], [lone, pair], [3, 7])],
            [9999999999999999999900000000000000000000, 7])


if __name__ == "__main__":
    unittest.main()
