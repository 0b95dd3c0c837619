"""Points [18] and [19]: kinds of rows of items."""

import copy
import random
import unittest
from itertools import permutations, product

from samples import Checks, chained, junk, random_question, random_store, random_stores, stores_for_any_use
from test_balls import NO_ROWS, TWO

from depthquestions.errors import InvalidList, InvalidNumber, InvalidStore, Unlike
from depthquestions.kinds import alike, atoms, kind, least_depth
from depthquestions.plain import holds
from depthquestions.questions import free_names

NO_DEPTHS = [-1, 5, 6, True, False, None, "1", "", (), (1,), [1], {}, 10 ** 29, -10 ** 29, InvalidNumber(1)]
PATH = ("store", ["red"], ["next"], [1, 2, 3], [("link", "next", 1, 2), ("link", "next", 2, 3), ("mark", "red", 2)])
RING = ("store", ["red"], ["next"], [5, 7], [("link", "next", 5, 7), ("link", "next", 7, 5), ("mark", "red", 7)])


def bare(many, first=0):
    """A store with so many items and nothing else."""
    return ("store", [], [], list(range(first, first + many)), [])


def told_atoms(store, row):
    """What a row says, by the words of the document."""
    _, marks, columns, _, facts = store
    firsts = tuple(min(place for place, other in enumerate(row) if other == item) for item in row)
    marked = tuple(tuple(1 if ("mark", mark, item) in facts else 0 for mark in marks) for item in row)
    links = tuple(tuple(tuple(place for place, other in enumerate(row) if ("link", column, item, other) in facts)
                        for item in row) for column in columns)
    return (firsts, marked, links)


def told_kind(store, row, depth):
    kinds = () if depth == 0 else sorted({told_kind(store, (*row, item), depth - 1) for item in store[3]})
    return (told_atoms(store, row), tuple(kinds))


def rows_of(store, most=4):
    return [row for many in range(most + 1) for row in product(store[3], repeat=many)]


class Atoms(Checks, unittest.TestCase):
    def test_ordinary(self):
        self.assert_same(atoms(PATH, ()), ((), (), ((),)))
        self.assert_same(atoms(PATH, (2,)), ((0,), ((1,),), (((),),)))
        self.assert_same(atoms(PATH, (1, 2)), ((0, 1), ((0,), (1,)), (((1,), ()),)))
        self.assert_same(atoms(PATH, (1, 2, 1, 2)), ((0, 1, 0, 1), ((0,), (1,), (0,), (1,)),
                                                     (((1, 3), (), (1, 3), ()),)))
        self.assert_same(atoms(bare(3), (2, 2, 0)), ((0, 0, 2), ((), (), ()), ()))
        self.assert_same(atoms(row=(), store=("store", [], ["n", "m"], [], [])), ((), (), ((), ())))
        self.assert_same(atoms(TWO, (4, 5, 6, 4)), ((0, 1, 2, 0), ((), (), (), ()), (
            ((0, 3), (), (1,), (0, 3)), ((), (2,), (), ()))))

    def test_four_marks(self):
        store = ("store", ["d", "a", "c", "b"], [], [1, 2], [("mark", "a", 1), ("mark", "b", 1), ("mark", "d", 2)])
        self.assert_same(atoms(store, (1, 2)), ((0, 1), ((0, 1, 0, 1), (1, 0, 0, 0)), ()))

    def test_many(self):
        for store in random_stores(30, 50, 5) + stores_for_any_use():
            before = copy.deepcopy(store)
            rows = rows_of(store)
            for row in rows[::1 + len(rows) // 100]:
                self.assert_same(atoms(store, row), told_atoms(store, row))
            self.assertEqual(store, before)


class Kind(Checks, unittest.TestCase):
    def test_ordinary(self):
        self.assert_same(kind(bare(0), (), 4), (((), (), ()), ()))
        alone = (((0,), ((),), ()), ())
        self.assert_same(kind(bare(1), (), 1), (((), (), ()), (alone,)))
        self.assert_same(kind(bare(5), (), 1), (((), (), ()), (alone,)))
        self.assert_same(kind(depth=1, row=(0,), store=bare(2)), (
            ((0,), ((),), ()), ((((0, 0), ((), ()), ()), ()), (((0, 1), ((), ()), ()), ()))))

    def test_many(self):
        for store in random_stores(31, 40, 3) + stores_for_any_use():
            rows = rows_of(store)
            for row in rows[::1 + len(rows) // 7]:
                for depth in range(5 - len(row) // 2):
                    self.assert_same(kind(store, row, depth), told_kind(store, row, depth))

    def test_order_and_no_two_alike(self):
        for store in random_stores(32, 18, 5):
            _, kinds = kind(store, (), 3)
            for inner in [kinds] + [inner for _, inner in kinds]:
                self.assertTrue(all(one < other for one, other in zip(inner, inner[1:])))

    def test_errors(self):
        for wrong in junk():
            self.fails(InvalidStore, wrong, atoms, wrong, None)
            self.fails(InvalidStore, wrong, kind, wrong, None, -1)
        for wrong in NO_ROWS:
            self.fails(InvalidList, wrong, atoms, TWO, wrong)
            self.fails(InvalidList, wrong, kind, TWO, wrong, -1)
        for wrong in NO_DEPTHS:
            self.fails(InvalidNumber, wrong, kind, TWO, (1, 2), wrong)


class Alike(Checks, unittest.TestCase):
    def differ_at(self, one, row, other, second, least):
        """Two stores with rows are alike to the depths below the least one, and to no others."""
        self.assert_same(least_depth(one, row, other, second), least)
        self.assert_same(least_depth(other, second, one, row), least)
        for depth in range(5):
            self.assertIs(alike(one, row, other, second, depth), least is None or depth < least)

    def test_numbers_of_items(self):
        for one, other in product(range(6), repeat=2):
            least = None if one == other or min(one, other) > 3 else min(one, other) + 1
            self.differ_at(bare(one), (), bare(other, 7), (), least)

    def test_each_depth(self):
        self.differ_at(PATH, (1,), PATH, (2,), 0)
        self.differ_at(PATH, (1,), PATH, (3,), 1)
        self.differ_at(PATH, (), RING, (), 2)
        self.differ_at(chained(1, ring=True), (), chained(2, ring=True), (), 1)
        self.differ_at(chained(3), (), chained(4), (), 2)
        self.differ_at(chained(7), (), chained(8), (), 3)
        self.differ_at(chained(7, ring=True), (), chained(8, ring=True), (), 4)
        self.assertEqual(least_depth(second=(3,), other=PATH, row=(1,), one=PATH), 1)
        self.assertIs(alike(depth=0, second=(3,), other=PATH, row=(1,), one=PATH), True)

    def test_renamed_items(self):
        chance = random.Random(33)
        for store in random_stores(34, 30, 5):
            items = [10 * item + 3 for item in store[3]]
            chance.shuffle(items)
            new = dict(zip(store[3], items))
            facts = [(*fact[:2], *[new[item] for item in fact[2:]]) for fact in store[4]]
            other = (*store[:3], sorted(items), sorted(facts))
            row = tuple(chance.choices(store[3], k=chance.randint(0, 4))) if store[3] else ()
            self.differ_at(store, row, other, tuple(new[item] for item in row), None)

    def test_an_item_twice(self):
        two, three = bare(2), bare(3)
        self.differ_at(two, (0, 0), two, (0, 1), 0)
        self.differ_at(three, (0, 1, 0), three, (0, 1, 1), 0)
        self.differ_at(three, (0, 1, 0), three, (2, 1, 2), None)
        self.differ_at(two, (0, 0), two, (1, 1), None)
        self.differ_at(two, (0,), three, (0,), 2)

    def test_as_the_kinds(self):
        stores = [store for store in random_stores(35, 60, 4) if len(store[1]) == len(store[2]) == 1]
        chance = random.Random(36)
        for one, other in product(stores, repeat=2):
            many = chance.randint(0, 4) if one[3] and other[3] else 0
            row, second = [tuple(chance.choices(store[3], k=many)) for store in (one, other)]
            unlike = [depth for depth in range(5) if kind(one, row, depth) != kind(other, second, depth)]
            self.differ_at(one, row, other, second, min(unlike, default=None))
            self.assertEqual(unlike, list(range(min(unlike, default=5), 5)))

    def test_questions_tell_no_more(self):
        chance = random.Random(37)
        compared = 0
        for _ in range(400):
            depth = chance.randint(0, 3)
            question = random_question(chance, depth, ["x", "y"], size=14)
            one, other = [random_store(chance, ["red"], ["next"], chance.randint(1, 3)) for _ in range(2)]
            row, second = [tuple(chance.choices(store[3], k=2)) for store in (one, other)]
            if alike(one, row, other, second, depth):
                compared += 1
                bound = [[(name, dict(zip("xy", items))[name]) for name in free_names(question)]
                         for items in (row, second)]
                self.assertIs(holds(one, question, bound[0]), holds(other, question, bound[1]))
        self.assertGreater(compared, 20)

    def test_marks_and_columns_in_another_order(self):
        one = ("store", ["a", "b"], ["n", "m"], [1], [])
        for marks, columns in [(["b", "a"], ["n", "m"]), (["a", "b"], ["m", "n"]), (["a"], ["n", "m"]),
                               (["a", "b"], ["n"]), (["a", "b", "c"], ["n", "m"]), ([], [])]:
            other = ("store", marks, columns, [1], [])
            self.fails(Unlike, other, alike, one, (), other, (), 1)
            self.fails(Unlike, other, least_depth, one, (), other, ())

    def test_errors_in_order(self):
        store, unlike = TWO, bare(3)
        for wrong in junk():
            self.fails(InvalidStore, wrong, alike, wrong, [], "no store", [], -1)
            self.fails(InvalidStore, wrong, least_depth, wrong, [], "no store", [])
            self.fails(InvalidStore, wrong, alike, store, (1,), wrong, [], -1)
            self.fails(InvalidStore, wrong, least_depth, store, (1,), wrong, [])
        for wrong in NO_ROWS:
            self.fails(InvalidList, wrong, alike, store, wrong, None, [], -1)
            self.fails(InvalidList, wrong, least_depth, store, wrong, None, [])
            self.fails(Unlike, unlike, alike, store, (1,), unlike, wrong, -1)
            self.fails(Unlike, unlike, least_depth, store, (1,), unlike, wrong)
            self.fails(InvalidList, wrong, alike, store, (1,), store, wrong, -1)
            self.fails(InvalidList, wrong, least_depth, store, (1,), store, wrong)
        for row, second in permutations([(), (1,), (2, 2), (1, 2, 3), (4, 4, 4, 4)], 2):
            self.fails(Unlike, second, alike, store, row, store, second, -1)
            self.fails(Unlike, second, least_depth, store, row, store, second)
        for wrong in NO_DEPTHS:
            self.fails(InvalidNumber, wrong, alike, store, (1, 2), store, (1, 1), wrong)


class Limits(Checks, unittest.TestCase):
    def test_eight_items(self):
        items = list(range(8))
        marks = ["a", "b", "c", "d"]
        facts = [("link", "n", item, (item + 1) % 8) for item in items]
        facts += [("link", "m", item, (3 * item + 1) % 8) for item in items]
        facts += [("mark", mark, item) for at, mark in enumerate(marks) for item in items[at::3]]
        store = ("store", marks, ["n", "m"], items, sorted(facts))
        self.assertEqual(len(self.in_time(kind, store, (0, 1, 2, 3), 4)[1]), 8)
        self.assertIsNone(self.in_time(least_depth, store, (0, 1, 2, 3), store, (0, 1, 2, 3)))
        self.assertIs(self.in_time(alike, bare(8), (), bare(8, 8), (), 4), True)


class Example(unittest.TestCase):
    def test_example(self):
        self.assertEqual(
            [atoms(PATH, (2, 3, 2)), kind(RING, (5,), 0)],
            [((0, 1, 0), ((1,), (0,), (1,)), (((1,), (), (1,)),)), (((0,), ((0,),), (((),),)), ())])
        self.assertEqual(
            [kind(PATH, (), 1), alike(PATH, (), RING, (), 1), least_depth(PATH, (), RING, ()),
             least_depth(PATH, (2,), RING, (7,))],
            [(((), (), ((),)), ((((0,), ((0,),), (((),),)), ()), (((0,), ((1,),), (((),),)), ()))), True, 2, 1])


if __name__ == "__main__":
    unittest.main()
