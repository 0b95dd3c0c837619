"""Points [32] and [33]: profiles, and answers by types and profiles."""

import copy
import random
import unittest
from itertools import product

from samples import Checks, chained, junk, random_stores, reading, stores_for_any_use
from test_codes import NO_COLUMNS, NO_MARKS
from test_looking import FIVE_DEEP, Looker, questions_for, stores_with
from test_plain import NO_QUESTIONS_OF_STORE, STORE

from depthquestions.codes import code_of, types
from depthquestions.errors import InvalidList, InvalidNumber, InvalidPaper, InvalidQuestion, InvalidStore, Unlike
from depthquestions.looking import local_holds
from depthquestions.profiles import holds_by_types, profile, same_profile
from depthquestions.questions import depth, free_names
from depthquestions.radii import cut, radius
from depthquestions.stores import store_of
from depthquestions.texts import read_question

TRUE, RED, NEXT = ("true",), ("mark", "red", "x"), ("link", "next", "x", "y")
LED = ("some", "y", NEXT)
NO_NUMBERS = [-1, 5, True, False, None, "1", (1,), [1], {}, 10 ** 29, InvalidNumber(1)]
LONE, MARKED = ((0,), (((0,), -1, -1),)), ((0,), (((1,), -1, -1),))
THREE = ("store", ["red"], ["next"], [1, 2, 3], [("link", "next", 1, 2), ("link", "next", 2, 3), ("mark", "red", 3)])


def bare(many, columns=()):
    return ("store", [], list(columns), list(range(many)), [])


class Profile(Checks, unittest.TestCase):
    def test_ordinary(self):
        self.assert_same(profile(THREE, 0, 3), [])
        self.assert_same(profile(THREE, 1, 1), [[(LONE, 2), (MARKED, 1)]])
        self.assertEqual(profile(names=0, depth=2, store=bare(1)), [[(((0,), (((),),)), 1)]] * 2)
        self.assertEqual(profile(("store", [], [], [], []), 3, 4), [[], [], []])

    def test_many(self):
        for store in random_stores(100, 60, 12) + stores_for_any_use():
            before = copy.deepcopy(store)
            looker = Looker(store)
            for most, names in product(range(5), repeat=2):
                expected = [[(code, min(len(items), cut(len(store[2]), most, names, level)))
                             for code, items in looker.types_at(level)] for level in range(most)]
                found = profile(store, most, names)
                self.assert_same(found, expected)
                self.assert_new_lists(found, store)
            self.assertEqual(store, before)

    def test_cut_just_there(self):
        for columns, most, names in product([[], ["next"], ["next", "up"]], range(1, 5), range(5)):
            for level in range(most):
                at = cut(len(columns), most, names, level)
                if at < 1500:
                    for many, expected in [(at - 1, at - 1), (at, at), (at + 1, at)]:
                        found = profile(bare(many, columns), most, names)
                        self.assertEqual([number for _, number in found[level]], [expected])

    def test_errors(self):
        for wrong in junk():
            self.fails(InvalidStore, wrong, profile, wrong, -1, -1)
        for wrong in NO_NUMBERS:
            self.fails(InvalidNumber, wrong, profile, THREE, wrong, "names")
            self.fails(InvalidNumber, wrong, profile, THREE, 1, wrong)
            self.fails(InvalidNumber, wrong, profile, THREE, 0, wrong)


class SameProfile(Checks, unittest.TestCase):
    def test_ordinary(self):
        self.assertIs(same_profile(THREE, chained(3, marked=[9], first=7), 2, 1), True)
        self.assertIs(same_profile(THREE, chained(3, marked=[1]), 1, 0), True)
        self.assertIs(same_profile(THREE, chained(3, marked=[1]), 2, 0), False)
        self.assertIs(same_profile(THREE, chained(3, marked=[1, 2]), 0, 4), True)
        self.assertIs(same_profile(names=0, depth=1, other=chained(4), one=chained(3)), False)
        self.assertIs(same_profile(chained(4), chained(5), 1, 0), True)
        self.assertIs(same_profile(chained(4), chained(5), 1, 1), False)

    def test_many(self):
        stores = [store for store in random_stores(101, 250, 6, most=9) if (len(store[1]), len(store[2])) == (1, 1)]
        same = 0
        for one, other in product(stores, repeat=2):
            for most, names in [(0, 0), (1, 0), (1, 2), (2, 1), (4, 0)]:
                found = same_profile(one, other, most, names)
                self.assertIs(found, profile(one, most, names) == profile(other, most, names))
                same += found and most > 0
        self.assertGreater(same, 100)

    def test_errors_in_order(self):
        for wrong in junk():
            self.fails(InvalidStore, wrong, same_profile, wrong, "no store", -1, -1)
            self.fails(InvalidStore, wrong, same_profile, THREE, wrong, -1, -1)
        one = ("store", ["a", "b"], ["n", "m"], [1], [])
        for marks, columns in [(["b", "a"], ["n", "m"]), (["a", "b"], ["m", "n"]), (["a"], ["n", "m"]),
                               (["a", "b"], ["n"])]:
            other = ("store", marks, columns, [1], [])
            self.fails(Unlike, other, same_profile, one, other, -1, -1)
        for wrong in NO_NUMBERS:
            self.fails(InvalidNumber, wrong, same_profile, one, one, wrong, "names")
            self.fails(InvalidNumber, wrong, same_profile, one, one, 2, wrong)


class HoldsByTypes(Checks, unittest.TestCase):
    def held(self, store, question, names, row):
        """What holds_by_types tells of a row of a store; it is what holds tells."""
        most = depth(question)
        counts = profile(store, most, len(names))
        given = (store[1], store[2], question, names, code_of(store, row, radius(most)), counts)
        before = copy.deepcopy(given)
        found = holds_by_types(*given)
        bound = {name: item for name, item in zip(names, row) if name in free_names(question)}
        self.assertIs(found, reading(store, question, bound), (store, question, names, row))
        self.assertEqual(given, before)
        return found

    def test_each_form(self):
        inner = [TRUE, ("false",), RED, NEXT, ("same", "x", "y"), ("not", NEXT), ("and", NEXT, ("not", RED)),
                 ("or", RED, NEXT), ("some", "z", ("and", NEXT, ("link", "next", "y", "z"))),
                 ("all", "z", ("or", ("mark", "red", "z"), ("not", ("link", "next", "x", "z"))))]
        outer = inner + [(word, "x", part) for word in ("some", "all") for part in inner]
        outer += [(word, "u", part) for word in ("some", "all") for part in inner]
        for store in [STORE, THREE, chained(2, ring=True, marked=[0]), chained(7, marked=[0, 1, 5])]:
            for question in outer:
                for names in [["x", "y"], ["y", "x"]]:
                    for row in product(store[3], repeat=2):
                        self.held(store, question, names, row)
        self.assertIs(holds_by_types(
            counts=profile(THREE, 1, 1), shape=code_of(THREE, (3,), 1), names=["x"], question=LED, columns=["next"],
            marks=["red"]), False)

    def test_names(self):
        for row in product(THREE[3], repeat=3):
            self.held(THREE, LED, ["z", "x", "w"], row)
            self.held(THREE, LED, ["x", "y", "z"], row)
            self.held(THREE, LED, ["y", "w", "x"], row)
            self.held(THREE, ("and", RED, ("not", ("link", "next", "z", "y"))), ["y", "z", "x"], row)
        for row in product(THREE[3], repeat=2):
            self.held(THREE, ("some", "y", ("all", "x", NEXT)), ["x", "y"], row)
            self.held(THREE, ("and", LED, ("some", "y", ("link", "next", "y", "x"))), ["y", "x"], row)

    def test_without_items(self):
        for columns in [[], ["next"], ["next", "up"]]:
            empty = ("store", ["red"], columns, [], [])
            for question in [TRUE, ("some", "x", TRUE), ("all", "x", RED),
                             ("all", "x", ("some", "y", ("same", "x", "y"))),
                             ("not", ("some", "x", ("all", "y", ("all", "z", TRUE))))]:
                self.held(empty, question, [], ())

    def test_many(self):
        for columns in range(3):
            stores = stores_with(columns, random_stores(110 + columns, 120, 8))
            chance = random.Random(113 + columns)
            for at, question in enumerate(questions_for(114 + columns, 120, columns)):
                free = free_names(question)
                most = (3 if columns == 2 else 4) - depth(question)
                more = [name for name in ["x", "y", "t", "u", "zz"] if name not in free]
                names = free + chance.sample(more, chance.randint(0, max(0, min(3, most) - len(free))))
                chance.shuffle(names)
                for store in stores[at % 4::4][:6]:
                    for row in list(product(store[3], repeat=len(names)))[::7][:12]:
                        self.held(store, question, names, row)

    def test_near_the_cut(self):
        asked = ["some y: (not x = y and not next(x, y) and not next(y, x))",
                 "some y: (red(y) and not next(x, y) and not next(y, x) and not x = y)",
                 "all y: (red(y) or x = y or next(x, y) or next(y, x))"]
        for text in asked:
            for many in range(1, 8):
                for ring in [False, True]:
                    for marked in [[], range(many), range(0, many, 2)]:
                        store = chained(many, ring=ring, marked=marked)
                        for item in range(many):
                            self.held(store, read_question(text), ["x"], (item,))
                            self.held(store, ("some", "x", read_question(text)), [], ())

    def test_all_stores_with_one_profile(self):
        asked = [question for question in questions_for(120, 60, 1, size=20) if free_names(question) == []]
        self.assertGreater(len(asked), 5)
        for question in asked:
            most = depth(question)
            stores = [chained(many, ring=True) for many in (300, 350)] if most < 4 else []
            for store in stores:
                self.assertTrue(same_profile(stores[0], store, most, 0))
            found = [holds_by_types(["red"], ["next"], question, [], ((), ()), profile(store, most, 0))
                     for store in stores]
            self.assertEqual(len(set(found)), len(stores[:1]))

    def test_a_type_with_a_greater_radius(self):
        for item in chained(9)[3]:
            shape = code_of(chained(9), (item,), 5)
            self.assertIs(holds_by_types(["red"], ["next"], LED, ["x"], shape, profile(chained(9), 1, 1)), item < 8)

    def test_limits(self):
        chance = random.Random(121)
        facts = []
        for first in range(0, 1995, 5):
            long = chance.choice([1, 2, 3, 4])
            facts += [("link", "next", first + at, first + at + 1) for at in range(long - 1)]
            facts += [("mark", "red", first)] if chance.random() < 0.5 else []
        store = store_of(["red"], ["next"], list(range(2000)), facts)
        found = self.in_time(profile, store, 4, 0)
        self.assertEqual([len(level) for level in found[2:]], [20, 20])
        for text in [
                "all x: some y: all z: some u: ((next(x, y) or next(z, u) or red(u)) and not u = z)",
                "all x: all y: all z: all u: (next(z, u) or not (next(z, u) and x = y))",
                "some x: some y: some z: some u: (next(x, y) and next(y, z) and next(z, u) and next(u, x))"]:
            asked = read_question(text)
            told = self.in_time(holds_by_types, ["red"], ["next"], asked, [], ((), ()), found)
            self.assertIs(told, self.in_time(local_holds, store, asked, []))
        pairs = [("link", "up", item + 5, item) for item in range(0, 600, 10)]
        pairs += [("link", "next", item, item + 1) for item in range(0, 600, 5)]
        grid = store_of([], ["next", "up"], list(range(600)), pairs)
        found = self.in_time(profile, grid, 3, 0)
        question = read_question("all x: all y: some z: (next(x, z) or up(z, y) or not (z = x or z = y))")
        self.assertIs(self.in_time(
            holds_by_types, [], ["next", "up"], question, [], ((), ()), found), True)


class Errors(Checks, unittest.TestCase):
    def setUp(self):
        self.shape, self.counts = code_of(THREE, (3,), 1), profile(THREE, 1, 1)

    def test_marks_columns_and_questions(self):
        for wrong in NO_MARKS:
            self.fails(InvalidList, wrong, holds_by_types, wrong, wrong, None, None, None, None)
        for wrong in NO_COLUMNS:
            self.fails(InvalidList, wrong, holds_by_types, ["red"], wrong, None, None, None, None)
        for wrong in junk() + NO_QUESTIONS_OF_STORE + [FIVE_DEEP, ("not", FIVE_DEEP)]:
            self.fails(InvalidQuestion, wrong, holds_by_types, ["red"], ["next"], wrong, ("x",), None, None)

    def test_names(self):
        for wrong in [[], ["y"], ["x", "x"], ["x", "a", "b", "c"], ("x",), None, "x", ["x", "in"], ["x", 1], {"x": 1},
                      True,
                      ["x", ["y"]], ["X", "x"], ["x", "z", "z"]]:
            self.fails(InvalidList, wrong, holds_by_types, ["red"], ["next"], LED, wrong, "shape", None)

    def test_shapes(self):
        two = code_of(THREE, (3, 1), 1)
        for wrong in [*junk(), two, ((), ()), code_of(bare(2), (1,), 1), ((0,), (((0,), 1, -1),)), list(self.shape),
                      code_of(("store", ["red"], [], [1], []), (1,), 1), ((0,), [((0,), -1, -1)])]:
            self.fails(InvalidPaper, wrong, holds_by_types, ["red"], ["next"], LED, ["x"], wrong, None)
        for wrong in [self.shape, ((), ())]:
            self.fails(InvalidPaper, wrong, holds_by_types, ["red"], ["next"], NEXT, ["x", "y"], wrong, None)
        self.assertIs(holds_by_types(["red"], ["next"], NEXT, ["x", "y"], two, []), False)

    def test_counts(self):
        right = self.counts
        self.assertEqual(right, [[(LONE, 2), (MARKED, 1)]])
        pair = ((0, 1), (((0,), -1, -1), ((0,), -1, -1)))
        for wrong in [
                [], [*right, []], [*right, *right], right[0], (right[0],), [tuple(right[0])], [right[0][::-1]],
                [[right[0][0], right[0][0]]], [[(LONE, 1), (LONE, 2)]], [[(LONE, 2), (MARKED, 0)]],
                [[(LONE, -1)]], [[(LONE, True)]], [[(LONE, None)]], [[(LONE, "1")]], [[[LONE, 1]]], [[(pair, 1)]],
                [[(((), ()), 1)]], [[(LONE,)]], [[(LONE, 1, 1)]], [[LONE]], [[(list(LONE), 1)]], [[(None, 1)]], [None],
                [[None]], None, True, "", {}, [{}], [[(((0,), (((0, 0), -1, -1),)), 1)]],
                [[(((0,), (((0,), 1, -1),)), 1)]],
                [[(1, LONE)]]]:
            self.fails(InvalidPaper, wrong, holds_by_types, ["red"], ["next"], LED, ["x"], self.shape, wrong)
        for wrong in [[right[0]], [right[0], right[0], right[0]], [right[0], right[0][::-1]], [[], None], [None, []]]:
            self.fails(InvalidPaper, wrong, holds_by_types, ["red"], ["next"], ("all", "x", LED), [], ((), ()), wrong)
        for wrong in [[[]], [[], []], None, ()]:
            self.fails(InvalidPaper, wrong, holds_by_types, ["red"], ["next"], RED, ["x"], self.shape, wrong)
        self.assertIs(holds_by_types(["red"], ["next"], RED, ["x"], self.shape, []), True)
        self.assertIs(holds_by_types(["red"], ["next"], LED, ["x"], self.shape, [[(LONE, 1)]]), False)
        many = [[(LONE, 10 ** 29), (MARKED, 1)]]
        self.assertIs(holds_by_types(["red"], ["next"], LED, ["x"], self.shape, many), False)


class Limits(Checks, unittest.TestCase):
    def test_as_many_items_as_there_may_be(self):
        chance = random.Random(122)
        items = list(range(2000))
        order = chance.sample(items, 2000)
        facts = [("link", "next", item, (item + 1) % 2000) for item in items]
        facts += [("link", "up", item, other) for item, other in enumerate(order)]
        store = store_of(["red"], ["next", "up"], items, facts)
        self.assertEqual(len(self.in_time(profile, store, 3, 0)[2]), len(types(store, 4)))
        self.assertIs(self.in_time(same_profile, store, store, 3, 0), True)
        ring = chained(2000, ring=True, marked=range(0, 2000, 4))
        self.assertEqual([len(level) for level in self.in_time(profile, ring, 4, 4)], [2, 4, 4, 4])


class Example(unittest.TestCase):
    def test_example(self):
        three = THREE
        last = ("not", ("some", "y", ("link", "next", "x", "y")))
        self.assertEqual(
            [profile(three, 1, 1), code_of(three, (3,), 1), same_profile(three, three, 2, 1)],
            [[[(((0,), (((0,), -1, -1),)), 2), (((0,), (((1,), -1, -1),)), 1)]],
             ((0,), (((1,), -1, 1), ((0,), 0, -1))), True])
        self.assertEqual(
            [holds_by_types(["red"], ["next"], last, ["x"], code_of(three, (item,), 1), profile(three, 1, 1))
             for item in [1, 2, 3]],
            [False, False, True])


if __name__ == "__main__":
    unittest.main()
