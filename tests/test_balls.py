"""Points [20] and [21]: neighbours, distances, groups and balls."""

import copy
import unittest
from itertools import product

from samples import Checks, chained, distances_of, full_store, junk, random_stores, stores_for_any_use

from depthquestions.balls import ball, distance, groups, neighbours
from depthquestions.errors import InvalidItem, InvalidList, InvalidNumber, InvalidStore
from depthquestions.stores import store_of

TWO = store_of([], ["next", "up"], [1, 2, 3, 4, 5, 6, 9], [
    ("link", "next", 1, 2), ("link", "up", 3, 2), ("link", "next", 4, 4), ("link", "up", 5, 6), ("link", "next", 6, 5),
    ("link", "up", 4, 1)])
NO_ITEMS = [0, 7, 10, -1, True, False, None, "1", [1], (1,), {}, 10 ** 29, InvalidItem(1)]
NO_ROWS = [
    (1, 2, 3, 4, 5), (1, 1, 1, 1, 1), [1], [], None, 1, "12", {}, {1: 2}, (7,), (1, 7), (7, 1), (True,), (1, True),
    (False,), ((1,),), ([1],), (None,), ("1",), (-1,), (1, 2, 3, 10 ** 29), InvalidItem((1,)), True]
NO_RADII = [-1, 41, 42, True, False, None, "1", "", (), (1,), [1], {}, 10 ** 29, -10 ** 29, InvalidNumber(1)]


class Near(Checks, unittest.TestCase):
    def test_neighbours(self):
        self.assertEqual([neighbours(TWO, item) for item in TWO[3]], [[2, 4], [1, 3], [2], [1, 4], [6], [5], []])
        self.assertEqual(neighbours(item=4, store=TWO), [1, 4])
        ring = chained(3, ring=True)
        self.assertEqual([neighbours(ring, item) for item in range(3)], [[1, 2], [0, 2], [0, 1]])
        self.assertEqual(neighbours(chained(1, ring=True), 0), [0])
        self.assertEqual(neighbours(chained(2, ring=True), 0), [1])

    def test_distance(self):
        self.assertEqual([distance(TWO, 3, item) for item in TWO[3]], [2, 1, 0, 3, None, None, None])
        self.assertEqual([distance(TWO, 9, 9), distance(TWO, 4, 4), distance(TWO, 5, 6), distance(TWO, 9, 1)],
                         [0, 0, 1, None])
        self.assertEqual(distance(other=2, one=1, store=TWO), 1)
        ring = chained(9, ring=True)
        self.assertEqual([distance(ring, 0, item) for item in range(9)], [0, 1, 2, 3, 4, 4, 3, 2, 1])

    def test_groups(self):
        self.assert_same(groups(TWO), [[1, 2, 3, 4], [5, 6], [9]])
        self.assertEqual(groups(store=("store", [], [], [], [])), [])
        self.assertEqual(groups(("store", ["red"], [], [3, 5], [("mark", "red", 3)])), [[3], [5]])
        mixed = store_of([], ["next"], [1, 2, 3, 4], [("link", "next", 4, 1), ("link", "next", 3, 2)])
        self.assertEqual(groups(mixed), [[1, 4], [2, 3]])

    def test_many(self):
        for store in random_stores(20, 60, 9) + stores_for_any_use():
            before = copy.deepcopy(store)
            known = distances_of(store)
            for one in store[3]:
                led = [fact[3] for fact in store[4] if fact[0] == "link" and fact[2] == one]
                leading = [fact[2] for fact in store[4] if fact[0] == "link" and fact[3] == one]
                self.assert_same(neighbours(store, one), sorted(set(led + leading)))
                for other in store[3]:
                    self.assert_same(distance(store, one, other), known.get((one, other)))
            whole = {tuple(other for other in store[3] if (one, other) in known) for one in store[3]}
            found = groups(store)
            self.assert_same(found, [list(group) for group in sorted(whole)])
            self.assert_new_lists(found, store)
            self.assertEqual(store, before)

    def test_errors(self):
        for wrong in junk():
            self.fails(InvalidStore, wrong, neighbours, wrong, None)
            self.fails(InvalidStore, wrong, distance, wrong, None, None)
            self.fails(InvalidStore, wrong, groups, wrong)
        for wrong in NO_ITEMS:
            self.fails(InvalidItem, wrong, neighbours, TWO, wrong)
            self.fails(InvalidItem, wrong, distance, TWO, wrong, "no item")
            self.fails(InvalidItem, wrong, distance, TWO, 1, wrong)


class Balls(Checks, unittest.TestCase):
    def test_ordinary(self):
        path = chained(9)
        self.assertEqual(ball(path, (4,), 0), [4])
        self.assertEqual(ball(path, (4,), 2), [2, 3, 4, 5, 6])
        self.assertEqual(ball(path, (0, 8), 1), [0, 1, 7, 8])
        self.assertEqual(ball(path, (3, 4, 3), 1), [2, 3, 4, 5])
        self.assertEqual(ball(path, (4, 0, 8, 4), 40), list(range(9)))
        self.assertEqual(ball(path, (4, 0, 8, 2), 0), [0, 2, 4, 8])
        self.assertEqual(ball(radius=2, row=(1,), store=TWO), [1, 2, 3, 4])
        for radius in [0, 1, 40]:
            self.assertEqual(ball(path, (), radius), [])
            self.assertEqual(ball(("store", [], [], [], []), (), radius), [])

    def test_far_and_long(self):
        path = chained(200)
        self.assertEqual(ball(path, (100,), 40), list(range(60, 141)))
        self.assertEqual(ball(path, (0, 199), 40), [*range(41), *range(159, 200)])
        self.assertEqual(ball(path, (90, 100), 39), list(range(51, 140)))

    def test_many(self):
        for store in random_stores(21, 40, 8):
            known = distances_of(store)
            rows = [row for many in range(5) for row in product(store[3], repeat=many)]
            for row in rows[::1 + len(rows) // 60]:
                for radius in [0, 1, 2, 40]:
                    expected = [item for item in store[3] if any(
                        known.get((root, item), 99) <= radius for root in row)]
                    found = ball(store, row, radius)
                    self.assert_same(found, expected)
                    self.assertIsNot(found, store[3])

    def test_errors(self):
        for wrong in junk():
            self.fails(InvalidStore, wrong, ball, wrong, None, -1)
        for wrong in NO_ROWS:
            self.fails(InvalidList, wrong, ball, TWO, wrong, -1)
        for wrong in NO_RADII:
            self.fails(InvalidNumber, wrong, ball, TWO, (1, 2), wrong)


class Limits(Checks, unittest.TestCase):
    def test_as_many_items_as_there_may_be(self):
        store = full_store()
        first = store[3][0]
        self.assertEqual(len(self.in_time(neighbours, store, first)), 2)
        found = self.in_time(groups, store)
        self.assertEqual(sorted(item for group in found for item in group), store[3])
        for other in store[3][::400]:
            self.assertIs(self.in_time(distance, store, first, other) is None, other not in found[0])
        ring = chained(2000, ring=True)
        self.assertEqual(self.in_time(distance, ring, 0, 1000), 1000)
        self.assertEqual(self.in_time(groups, ring), [list(range(2000))])
        self.assertEqual(len(self.in_time(ball, ring, (0, 500, 1000, 1500), 24)), 196)
        self.assertEqual(len(self.in_time(groups, ("store", [], ["next"], list(range(2000)), []))), 2000)


class Example(unittest.TestCase):
    def test_example(self):
        store = ("store", ["red"], ["next"], [1, 2, 3, 5, 8], [
            ("link", "next", 1, 2), ("link", "next", 2, 3), ("link", "next", 8, 8), ("mark", "red", 3)])
        self.assertEqual(
            [neighbours(store, 2), neighbours(store, 8), distance(store, 1, 3), distance(store, 3, 5), groups(store),
             ball(store, (3, 5), 1), ball(store, (), 4)],
            [[1, 3], [8], 2, None, [[1, 2, 3], [5], [8]], [2, 3, 5], []])


if __name__ == "__main__":
    unittest.main()
