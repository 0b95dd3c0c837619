"""Point [49]: lines."""

import copy
import random
import unittest

from line_samples import NO_LINE_COLUMNS, NO_LINE_MARKS, all_letters, all_lists, is_told_line, told_store
from samples import Checks, chained, junk, random_stores, small_stores, stores_for_any_use

from depthquestions.errors import InvalidList, InvalidStore, Unlike
from depthquestions.lines import is_line, letters, line_of, store_of_line
from depthquestions.stores import is_store

STORE = ("store", ["red"], ["next"], [2, 3, 5, 9], [("link", "next", 2, 2), ("link", "next", 3, 9), ("mark", "red", 9)])


def told_line(store):
    """The line of a store, by the words of the document."""
    _, marks, _, items, facts = store
    behind = {fact[2]: fact[3] for fact in facts if fact[0] == "link"}
    firsts = [item for item in items if item not in behind.values()]
    pieces = []
    for first in firsts:
        piece = [first]
        while piece[-1] in behind:
            piece.append(behind[piece[-1]])
        pieces.append((min(piece), 1, piece))
    rest = [item for item in items if not any(item in piece for _, _, piece in pieces)]
    while rest:
        piece = [min(rest)]
        while behind[piece[-1]] != piece[0]:
            piece.append(behind[piece[-1]])
        pieces.append((piece[0], 2, piece))
        rest = [item for item in rest if item not in piece]
    line = []
    for _, start, piece in sorted(pieces):
        bits = [tuple(1 if ("mark", mark, item) in facts else 0 for mark in marks) for item in piece]
        line += [(start, bits[0])] + [(0, each) for each in bits[1:]]
    return line


class Letters(Checks, unittest.TestCase):
    def test_none_one_and_two_marks(self):
        self.assert_same(letters([]), [(0, ()), (1, ()), (2, ())])
        self.assert_same(letters(["red"]), [(0, (0,)), (0, (1,)), (1, (0,)), (1, (1,)), (2, (0,)), (2, (1,))])
        self.assert_same(letters(marks=["red", "blue"]), all_letters(["red", "blue"]))
        self.assertEqual(letters(["b", "a"]), sorted(letters(["a", "b"])))

    def test_errors(self):
        for wrong in NO_LINE_MARKS:
            self.fails(InvalidList, wrong, letters, wrong)
            self.fails(InvalidList, wrong, is_line, wrong, None)


class IsLine(Checks, unittest.TestCase):
    def test_all_short_ones(self):
        for marks, most in [([], 5), (["red"], 3), (["red", "blue"], 2)]:
            for many in range(most + 1):
                for line in all_lists(marks, many):
                    self.assertIs(is_line(marks, line), is_told_line(line))

    def test_what_is_none(self):
        self.assertIs(is_line(value=[(2, (1,))], marks=["red"]), True)
        right = [(2, (1,)), (0, (0,))]
        for wrong in [
                *junk(), tuple(right), [list(right[0])], [(2, [1])], [(3, (1,))], [(-1, (1,))], [(True, (1,))],
                [(1, (True,))], [(1, (False,))], [(1, (2,))], [(1, (-1,))], [(1, ())], [(1, (1, 1))], [(1,)], [(1, (1,), 0)],
                [(1, 1)], [((1,), 1)], [(0, (1,))], [*right, (False, (0,))], [*right, None], [*right, (0, (None,))], [1, 2],
                [("1", (1,))], [(1, ("1",))], [[]], [()], [right], {1: right}]:
            self.assertIs(is_line(["red"], wrong), False, wrong)
        self.assertIs(is_line([], [(1, (0,))]), False)
        self.assertIs(is_line([], []), True)
        self.assertIs(is_line(["red", "blue"], [(1, (0,))]), False)

    def test_long_lines(self):
        self.assertIs(self.in_time(is_line, [], [(1, ())] * 5000), True)
        self.assertIs(is_line([], [(1, ())] * 4999 + [(1, (0,))]), False)


class LineOf(Checks, unittest.TestCase):
    def told(self, store):
        before = copy.deepcopy(store)
        line = line_of(store)
        self.assert_same(store, before)
        self.assertTrue(is_line(store[1], line))
        self.assert_same(line, told_line(store))
        return line

    def test_pieces_in_order(self):
        self.assertEqual(self.told(STORE), [(2, (0,)), (1, (0,)), (0, (1,)), (1, (0,))])
        store = ("store", [], ["next"], [1, 2, 3, 4, 5, 6, 7], [
            ("link", "next", 3, 6), ("link", "next", 4, 2), ("link", "next", 5, 3), ("link", "next", 6, 5)])
        self.assertEqual(self.told(store), [(start, ()) for start in [1, 1, 0, 2, 0, 0, 1]])
        self.assertEqual(self.told(("store", [], ["next"], [], [])), [])
        self.assertEqual(self.told(("store", ["b", "a"], ["next"], [8], [("link", "next", 8, 8), ("mark", "a", 8)])),
                         [(2, (0, 1))])

    def test_many_and_back(self):
        stores = [store for store in random_stores(300, 300, 9) if len(store[2]) == 1] + small_stores()
        for store in stores:
            line = self.told(store)
            again = store_of_line(store[1], store[2], line)
            self.assertEqual(len(again[3]), len(store[3]))
            self.assertEqual(len(again[4]), len(store[4]))
            self.assertEqual(sorted(line_of(again)), sorted(line))
            if sorted(line[at][0] for at in range(len(line))) != [0] * len(line):
                self.assertEqual(line_of(again), line)

    def test_errors(self):
        for wrong in junk() + [("store", [], ["next"], [1, 1], [])]:
            self.fails(InvalidStore, wrong, line_of, wrong)
        for unlike in [("store", ["a", "b", "c"], ["next"], [], []), ("store", [], [], [1], []),
                       ("store", [], ["next", "up"], [], []), stores_for_any_use()[0], stores_for_any_use()[-1]]:
            self.fails(Unlike, unlike, line_of, unlike)

    def test_limits(self):
        for ring in [False, True]:
            store = chained(2000, ring=ring, marked=range(0, 2000, 3))
            line = self.in_time(line_of, store)
            self.assertEqual(self.in_time(store_of_line, ["red"], ["next"], line), store)


class StoreOfLine(Checks, unittest.TestCase):
    def test_all_short_ones(self):
        for marks, most in [([], 5), (["red"], 3), (["b", "a"], 2)]:
            for many in range(most + 1):
                for line in all_lists(marks, many):
                    if is_told_line(line):
                        before = copy.deepcopy((marks, line))
                        columns = ["next"]
                        store = store_of_line(marks, columns, line)
                        self.assert_same(before, (marks, line))
                        self.assertTrue(is_store(store))
                        self.assert_same(store, told_store(marks, columns, line))
                        self.assert_new_lists(store, marks, columns, line)
                        self.assertEqual(line_of(store), line)
        self.assertEqual(store_of_line(line=[(2, ())], columns=["up"], marks=[]), (
            "store", [], ["up"], [0], [("link", "up", 0, 0)]))

    def test_as_they_stand(self):
        chance = random.Random(301)
        for _ in range(100):
            line = [(chance.randint(0 if at else 1, 2), (chance.randint(0, 1),)) for at in range(chance.randint(0, 12))]
            self.assert_same(line_of(store_of_line(["red"], ["next"], line)), line)

    def test_errors_in_order(self):
        for wrong in NO_LINE_MARKS:
            self.fails(InvalidList, wrong, store_of_line, wrong, None, None)
        for wrong in NO_LINE_COLUMNS:
            self.fails(InvalidList, wrong, store_of_line, ["red"], wrong, None)
        for wrong in [None, [(0, (1,))], [(1, (True,))], ((1, (1,)),), [(1, ())], [(1, (1,)), (3, (0,))], "", {}, 1]:
            self.fails(InvalidList, wrong, store_of_line, ["red"], ["next"], wrong)


class Example(unittest.TestCase):
    def test_example(self):
        store = STORE
        self.assertEqual(
            [letters([]), line_of(store), is_line(["red"], [(0, (0,))]), is_line(["red"], [(2, (1,))])],
            [[(0, ()), (1, ()), (2, ())], [(2, (0,)), (1, (0,)), (0, (1,)), (1, (0,))], False, True])
        self.assertEqual(store_of_line(["red"], ["next"], [(2, (1,)), (0, (0,))]), (
            "store", ["red"], ["next"], [0, 1], [
                ("link", "next", 0, 1), ("link", "next", 1, 0), ("mark", "red", 0)]))


if __name__ == "__main__":
    unittest.main()
