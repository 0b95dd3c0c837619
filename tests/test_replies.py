"""Points [34] and [35]: replies."""

import copy
import random
import unittest

from samples import Checks, chained, junk, random_stores, stores_for_any_use
from test_balls import NO_ROWS
from test_profiles import NO_NUMBERS, bare

from depthquestions.codes import code_of, same_form
from depthquestions.errors import InvalidItem, InvalidList, InvalidNumber, InvalidStore, Unlike
from depthquestions.kinds import alike, atoms
from depthquestions.profiles import profile
from depthquestions.radii import near_radius, radius
from depthquestions.replies import reply, sure_depth
from depthquestions.stores import store_of

LONG = ("store", [], ["next"], list(range(40)), [("link", "next", item, item + 1) for item in range(39)])
MORE = ("store", [], ["next"], list(range(60)), [("link", "next", item, item + 1) for item in range(59)])
STORE = chained(4, first=1)


def pieces(counts, first=0, columns=1):
    """A store with so many copies of some pieces: items alone, marked ones, pairs, rings of three."""
    items, facts = [], []
    for count, (size, links, marked) in zip(counts, [
            (1, [], []), (1, [], [0]), (2, [(0, 1)], [1]), (3, [(0, 1), (1, 2), (2, 0)], [])]):
        for _ in range(count):
            start = first + len(items)
            items += range(start, start + size)
            facts += [("link", "next", start + one, start + other) for one, other in links]
            facts += [("mark", "red", start + at) for at in marked]
    return store_of(["red"], ["next"][:columns], items, facts)


def games():
    """Pairs of stores with rows that match to some depth of at least 1, with the greatest one up to 4."""
    found = [
        (bare(5), (), bare(9), (), 4), (bare(5), (0, 1), bare(4), (2, 0), 1), (bare(3), (), bare(5), (), 2),
        (pieces([7, 8], columns=0), (0, 8), pieces([9, 7], first=40, columns=0), (41, 50), 4),
        (pieces([7, 3], columns=0), (0, 8), pieces([6, 3], columns=0), (1, 6), 3),
        (LONG, (), MORE, (), 2), (LONG, (0,), MORE, (0,), 2), (LONG, (39, 20), MORE, (59, 30), 2),
        (chained(4), (1,), chained(4, first=9), (10,), 4),
        (chained(5, ring=True), (0, 2, 4), chained(5, ring=True), (3, 0, 2), 4),
        (pieces([16, 20, 17, 0]), (0, 36), pieces([30, 16, 18, 0], first=100), (101, 146), 1),
        (pieces([16, 20, 17, 3]), (), pieces([30, 16, 18, 3], first=100), (), 2),
    ]
    return found


def told_depth(one, row, other, second, most):
    """What sure_depth returns, by the words of the document."""
    many = len(row)
    fits = [depth for depth in range(most + 1) if len(second) == many
            and code_of(one, row, radius(depth)) == code_of(other, second, radius(depth))
            and profile(one, depth, many) == profile(other, depth, many)]
    return max(fits, default=None)


def near_in(store, row, most):
    """The items at such a distance from a row, step by step."""
    found = set(row)
    for _ in range(most):
        found |= {end for fact in store[4] if fact[0] == "link" and found & set(fact[2:]) for end in fact[2:]}
    return found


def told_reply(one, row, other, second, depth, item):
    """What reply returns, by the words of the document."""
    near = near_in(other, second, near_radius(depth))
    if item in near_in(one, row, near_radius(depth)):
        return dict(same_form(one, row, other, second, radius(depth)))[item]
    sought = code_of(one, (item,), radius(depth - 1))
    return next(image for image in other[3] if image not in near
                and code_of(other, (image,), radius(depth - 1)) == sought)


class SureDepth(Checks, unittest.TestCase):
    def told(self, one, row, other, second, most):
        before = copy.deepcopy((one, row, other, second))
        found = sure_depth(one, row, other, second, most)
        self.assert_same(before, (one, row, other, second))
        self.assert_same(found, told_depth(one, row, other, second, most))
        return found

    def test_to_each_depth_and_no_further(self):
        for one, row, other, second, deepest in games():
            for most in range(5):
                self.assertEqual(self.told(one, row, other, second, most), min(most, deepest))
                self.assertEqual(self.told(other, second, one, row, most), min(most, deepest))
        self.assertEqual(sure_depth(most=2, second=(), other=MORE, row=(), one=LONG), 2)

    def test_none(self):
        marked = chained(3, marked=[1])
        for row, second in [((), (0,)), ((0,), ()), ((0, 0), (0,)), ((0, 1, 2), (0, 1)), ((0,), (1,)), ((0, 1), (0, 2)),
                            ((0, 0), (0, 2)), ((0, 2, 0), (0, 2, 2))]:
            for most in range(5):
                self.assertIsNone(self.told(marked, row, marked, second, most))

    def test_depth_zero(self):
        self.assertEqual(self.told(bare(0), (), bare(9), (), 4), 0)
        self.assertEqual(self.told(chained(2), (0, 0), chained(2, marked=[0]), (1, 1), 3), 0)
        self.assertEqual(self.told(bare(0), (), bare(0), (), 4), 4)
        self.assertEqual(self.told(chained(3), (0,), chained(2), (1,), 4), 0)

    def test_many(self):
        chance = random.Random(200)
        stores = [store for store in random_stores(201, 300, 5, most=9) if (len(store[1]), len(store[2])) == (1, 1)]
        found = []
        for one in stores:
            for other in stores:
                many = chance.randint(0, 3) if one[3] and other[3] else 0
                rows = [tuple(chance.choices(store[3], k=many)) for store in (one, other)]
                most = chance.randint(0, 4 - many)
                found.append(self.told(one, rows[0], other, rows[1], most))
                if found[-1] is not None and found[-1] <= 2:
                    self.assertIs(alike(one, rows[0], other, rows[1], found[-1]), True)
        self.assertGreater(min(found.count(value) for value in [None, 0, 1, 2]), 5)

    def test_two_columns(self):
        chance = random.Random(202)
        stores = [store for store in random_stores(203, 200, 4, most=9) if (len(store[1]), len(store[2])) == (0, 2)]
        for one in stores:
            for other in stores:
                many = chance.randint(0, 2) if one[3] and other[3] else 0
                rows = [tuple(chance.choices(store[3], k=many)) for store in (one, other)]
                self.told(one, rows[0], other, rows[1], chance.randint(0, 3 - many))


class Reply(Checks, unittest.TestCase):
    def told(self, one, row, other, second, depth, item):
        before = copy.deepcopy((one, row, other, second))
        found = reply(one, row, other, second, depth, item)
        self.assert_same(before, (one, row, other, second))
        self.assert_same(found, told_reply(one, row, other, second, depth, item))
        return found

    def test_near_and_far(self):
        one, other = pieces([16, 20, 17, 0]), pieces([30, 16, 18, 0], first=100)
        self.assertEqual(self.told(one, (0, 36), other, (101, 146), 1, 0), 101)
        self.assertEqual(self.told(one, (0, 36), other, (101, 146), 1, 37), 147)
        self.assertEqual(self.told(one, (0, 36), other, (101, 146), 1, 36), 146)
        self.assertEqual(self.told(one, (0, 36), other, (101, 146), 1, 5), 100)
        self.assertEqual(self.told(one, (0, 36), other, (101, 146), 1, 20), 130)
        self.assertEqual(self.told(one, (0, 36), other, (101, 146), 1, 69), 130)
        self.assertEqual(self.told(one, (), other, (), 1, 69), 130)
        self.assertEqual(reply(item=39, depth=2, second=(), other=MORE, row=(), one=LONG), 59)

    def test_just_near(self):
        for item in range(40):
            near = range(32, 40) if item > 35 else []
            self.assertEqual(self.told(LONG, (39,), MORE, (59,), 1, item), (item + 20 if item > 37 else 0))
            if item in near:
                self.assertEqual(self.told(LONG, (36, 39), MORE, (56, 59), 1, item), item + 20)

    def play(self, chance, one, row, other, second, depth):
        """Plays a game to its end; the second player wins."""
        for left in range(depth, 0, -1):
            self.assertEqual(told_depth(one, row, other, second, left), left)
            if chance.random() < 0.5:
                one, row, other, second = other, second, one, row
            around = [item for item in one[3] if any(abs(item - root) < 4 for root in row)] or one[3]
            item = chance.choice(chance.choice([around, one[3]]))
            image = self.told(one, row, other, second, left, item)
            row, second = (*row, item), (*second, image)
        self.assertEqual(code_of(one, row, 0), code_of(other, second, 0))
        self.assertEqual(atoms(one, row), atoms(other, second))

    def test_games(self):
        chance = random.Random(204)
        for one, row, other, second, deepest in games():
            deepest = min(deepest, 4 - len(row))
            for _ in range(12):
                self.play(chance, one, row, other, second, chance.randint(0, deepest))

    def test_rings(self):
        chance = random.Random(205)
        one = ("store", [], ["next"], list(range(30)), [("link", "next", at, (at + 1) % 30) for at in range(30)])
        other = ("store", [], ["next"], list(range(50)), [("link", "next", at, (at + 1) % 50) for at in range(50)])
        for _ in range(30):
            self.play(chance, one, (), other, (), 2)

    def test_two_columns(self):
        chance = random.Random(206)
        many = [110, 120]
        grids = [("store", [], ["next", "up"], list(range(size)), sorted(
            [("link", "next", at, (at + 1) % size) for at in range(size)]
            + [("link", "up", at, at) for at in range(size)])) for size in many]
        for _ in range(20):
            self.play(chance, grids[0], (), grids[1], (), 2)
            self.play(chance, grids[0], (5,), grids[1], (9,), 1)


class Errors(Checks, unittest.TestCase):
    def test_stores_and_rows_in_order(self):
        calls = [lambda *given: (sure_depth, *given, -1), lambda *given: (reply, *given, 0, None)]
        unlike = bare(3)
        for call in calls:
            for wrong in junk():
                self.fails(InvalidStore, wrong, *call(wrong, [], "no store", []))
                self.fails(InvalidStore, wrong, *call(STORE, (1,), wrong, []))
            for wrong in [*NO_ROWS, (1, 2, 3, 4), (1, 1, 1, 1)]:
                self.fails(InvalidList, wrong, *call(STORE, wrong, None, []))
                self.fails(Unlike, unlike, *call(STORE, (1,), unlike, wrong))
                self.fails(InvalidList, wrong, *call(STORE, (1,), STORE, wrong))
            for other in [("store", ["blue"], ["next"], [1], []), ("store", ["red"], ["up"], [1], []),
                          ("store", ["red"], ["next", "up"], [1], []), ("store", ["red", "blue"], ["next"], [1], [])]:
                self.fails(Unlike, other, *call(STORE, (1,), other, (9,)))

    def test_numbers(self):
        for wrong in NO_NUMBERS:
            self.fails(InvalidNumber, wrong, sure_depth, STORE, (1, 2), STORE, (1,), wrong)
        for wrong in [*NO_NUMBERS, 0]:
            self.fails(InvalidNumber, wrong, reply, STORE, (1, 2), STORE, (1,), wrong, 9)

    def test_unlike_in_order(self):
        for row, second in [((1,), (1, 2)), ((1,), ()), ((1,), (2,)), ((1, 2), (2, 1)), ((1, 1), (1, 3))]:
            self.fails(Unlike, second, reply, STORE, row, chained(9, first=1), second, 1, "no item")
        self.fails(Unlike, MORE, reply, LONG, (), MORE, (), 3, "no item")
        other = chained(5)
        self.fails(Unlike, other, reply, STORE, (), other, (), 2, None)
        for wrong in [0, 5, -1, True, False, None, "1", (1,), [1], {}, 10 ** 29, InvalidItem(1)]:
            self.fails(InvalidItem, wrong, reply, STORE, (1,), STORE, (1,), 1, wrong)


class Limits(Checks, unittest.TestCase):
    def test_great_stores(self):
        one, other = chained(2000, ring=True, marked=range(0, 2000, 4)), chained(1200, ring=True, marked=range(
            0, 1200, 4))
        self.assertEqual(self.in_time(sure_depth, one, (), other, (), 4), 4)
        self.assertEqual(self.in_time(sure_depth, one, (8, 9, 10), other, (4, 5, 6), 1), 1)
        self.assertEqual(self.in_time(reply, one, (), other, (), 4, 1999), 3)
        self.assertEqual(self.in_time(reply, one, (8, 9), other, (4, 5), 2, 10), 6)
        self.assertEqual(self.in_time(reply, one, (8,), other, (0,), 3, 1000), 12)
        grids = [("store", [], ["next", "up"], list(range(size)), sorted(
            [("link", "next", at, (at + 1) % size) for at in range(size)]
            + [("link", "up", at, (at + 20) % size) for at in range(size)])) for size in (1000, 2000)]
        self.assertEqual(self.in_time(sure_depth, grids[0], (), grids[1], (), 3), 2)
        self.assertEqual(self.in_time(sure_depth, grids[1], (), grids[1], (), 3), 3)
        self.assertEqual(self.in_time(reply, grids[1], (0, 5), grids[0], (1, 6), 1, 1500), 3)

    def test_stores_for_any_use(self):
        for store in stores_for_any_use():
            self.assertEqual(sure_depth(store, (), store, (), 3), 3)
            for item in store[3]:
                self.assertEqual(sure_depth(store, (item, item), store, (item, item), 1), 1)
                self.assertEqual(reply(store, (item,), store, (item,), 2, item), item)


class Example(unittest.TestCase):
    def test_example(self):
        long, more = LONG, MORE
        self.assertEqual(
            [sure_depth(long, (), more, (), 2), sure_depth(long, (0,), more, (0,), 1),
             sure_depth(long, (0,), more, (1,), 1), sure_depth(long, (), ("store", [], ["next"], [1], []), (), 2)],
            [2, 1, 0, 0])
        self.assertEqual(
            [reply(long, (), more, (), 2, 39), reply(long, (), more, (), 2, 20),
             reply(long, (39,), more, (59,), 1, 38), reply(long, (39,), more, (59,), 1, 0)],
            [59, 1, 58, 0])


if __name__ == "__main__":
    unittest.main()
