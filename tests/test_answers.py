"""Points [36] to [38]: answers."""

import copy
import random
import unittest
from itertools import product

from samples import Checks, chained, distances_of, junk, pieces_store, random_stores, reading, stores_for_any_use
from test_looking import questions_for, stores_with
from test_plain import NO_ITEMS, NO_QUESTIONS_OF_STORE, STORE

from depthquestions.answers import (
    beginning, by_types, far_types, how_many, is_answer, next_answer, number_of, numbered, page)
from depthquestions.codes import code_of, types
from depthquestions.errors import InvalidItem, InvalidList, InvalidNumber, InvalidQuestion, InvalidStore
from depthquestions.questions import depth, free_names
from depthquestions.radii import radius
from depthquestions.texts import read_question

TRUE, RED, NEXT = ("true",), ("mark", "red", "x"), ("link", "next", "x", "y")
LED = ("some", "y", NEXT)
LINE = ("store", ["red"], ["next"], [1, 2, 3, 4, 5, 6], [
    ("link", "next", 1, 2), ("link", "next", 2, 3), ("link", "next", 4, 5), ("mark", "red", 2), ("mark", "red", 5)])
NO_NAMES = [
    [], ["y"], ["x", "y", "z"], ["x", "x"], ("x",), None, "x", ["x", "in"], ["x", 1], {"x": 1}, True, [["x"]], ["X", "x"],
    ["x", ""], [None], ["x", True]]
NO_NUMBERS = [-1, True, False, None, "1", (1,), [1], {}, 10 ** 29, -10 ** 29, InvalidNumber(1)]
WITHOUT_ROW = [how_many, by_types, far_types]
WITH_ROW = [is_answer, number_of, numbered, next_answer, beginning]


def asked(seed, many, columns, size=14):
    """Questions with names for them, within the limits."""
    chance = random.Random(seed)
    found = []
    for question in questions_for(seed, many, columns, size):
        free = free_names(question)
        most = min(2, (3 if columns == 2 else 4) - depth(question))
        more = [name for name in ["x", "y", "t", "zz"] if name not in free and f"'{name}'" not in repr(question)]
        least = max(1, len(free))
        if least <= most:
            names = free + chance.sample(more, min(len(more), chance.randint(least, most) - len(free)))
            chance.shuffle(names)
            if names:
                found.append((question, names))
    return found


def rows_for(store, names):
    return list(product(store[3], repeat=len(names)))


def no_rows(many):
    """Values that are no rows of so many items of LINE."""
    right = (1, 2, 3, 4)
    return [right[:many - 1], right[:many + 1], list(right[:many]), *[right[:many - 1] + (item,) for item in NO_ITEMS
            if item != 5], None, True, 1, "12", {}, {1: 2}, [], InvalidItem((1,))]


def plain_codes(store, names, reach):
    """The codes of all rows, each with its rows."""
    found = {}
    for row in rows_for(store, names):
        found.setdefault(code_of(store, row, reach), []).append(row)
    return found


def some_of(rows):
    """The first and the last rows of a list, and some between."""
    return rows if len(rows) < 13 else rows[:2] + rows[2:-2:1 + len(rows) // 8] + rows[-2:]


class AnswerChecks(Checks):
    def all_alike(self, store, question, names):
        """Each function tells what the plain reading tells."""
        before = copy.deepcopy((store, question, names))
        rows = rows_for(store, names)
        found = [row for row in rows if reading(store, question, dict(zip(names, row)))]
        self.assert_same(how_many(store, question, names), len(found))
        for row in some_of(rows):
            self.assertIs(is_answer(store, question, names, row), row in found)
            self.assert_same(number_of(store, question, names, row), len([other for other in found if other < row]))
            behind = [other for other in found if other > row]
            self.assert_same(next_answer(store, question, names, row), behind[0] if behind else None)
        for number, row in some_of(list(enumerate(found))):
            self.assert_same(numbered(store, question, names, number), row)
        self.fails_with(InvalidNumber, len(found), numbered, store, question, names, len(found))
        for number, many in product([0, 1, len(found) // 2, len(found)], [0, 1, 3, 1000]):
            if number <= len(found):
                told = page(store, question, names, number, many)
                self.assert_same(told, found[number:number + many])
        self.fails_with(InvalidNumber, len(found) + 1, page, store, question, names, len(found) + 1, 1001)
        for item in store[3]:
            begin = [row for row in found if row[0] == item]
            self.assert_same(beginning(store, question, names, item), len(begin))
        self.types_alike(store, question, names, found)
        self.assert_same(before, (store, question, names))

    def types_alike(self, store, question, names, found):
        reach = radius(depth(question))
        codes = plain_codes(store, names, reach)
        told = by_types(store, question, names)
        self.assert_same(told, [(code, len(codes[code]), codes[code][0] in found) for code in sorted(codes)])
        self.assert_new_lists(told, store, question, names)
        for rows in codes.values():
            self.assertEqual(len({row in found for row in rows}), 1)
        self.assertEqual(sum(many for _, many, _ in told), len(store[3]) ** len(names))
        self.assertEqual(sum(many for _, many, flag in told if flag), len(found))
        if len(names) == 1:
            self.fails(InvalidList, names, far_types, store, question, names)
            return
        known = distances_of(store)
        far = {}
        for row in rows_for(store, names):
            if known.get(row, 10 ** 9) > 2 * reach + 1:
                key = (code_of(store, row[:1], reach), code_of(store, row[1:], reach))
                far.setdefault(key, []).append(row)
        told = far_types(store, question, names)
        self.assert_same(told, [(*key, len(far[key]), far[key][0] in found) for key in sorted(far)])


class Answers(AnswerChecks, unittest.TestCase):
    def test_each_form(self):
        for question, names in [
                (TRUE, ["x"]), (("false",), ["x"]), (RED, ["x"]), (("not", RED), ["x"]), (LED, ["x"]), (LED, ["z", "x"]),
                (NEXT, ["x", "y"]), (NEXT, ["y", "x"]), (("same", "x", "y"), ["x", "y"]), (RED, ["x", "y"]),
                (RED, ["y", "x"]), (("same", "x", "x"), ["x"]), (("link", "next", "x", "x"), ["x", "y"]),
                (("some", "x", RED), ["y"]), (("all", "x", RED), ["y", "z"]), (("and", LED, RED), ["x"]),
                (("or", LED, ("some", "y", ("link", "next", "y", "x"))), ["x"]), (("all", "y", ("not", NEXT)), ["x"])]:
            for store in [STORE, LINE, ("store", ["red"], ["next"], [], []),
                          ("store", ["red"], ["next"], [0], [("link", "next", 0, 0)])]:
                self.all_alike(store, question, names)
        self.assertEqual(how_many(names=["x"], question=RED, store=LINE), 2)
        self.assertIs(is_answer(value=(2,), names=["x"], question=RED, store=LINE), True)
        self.assertEqual(number_of(row=(3,), names=["x"], question=RED, store=LINE), 1)
        self.assertEqual(numbered(number=1, names=["x"], question=RED, store=LINE), (5,))
        self.assertEqual(page(many=1, number=1, names=["x"], question=RED, store=LINE), [(5,)])
        self.assertEqual(next_answer(row=(2,), names=["x"], question=RED, store=LINE), (5,))
        self.assertEqual(beginning(item=2, names=["x"], question=RED, store=LINE), 1)
        self.assertEqual(len(by_types(names=["x"], question=RED, store=LINE)), 2)
        self.assertEqual(len(far_types(names=["x", "y"], question=RED, store=LINE)), 4)

    def test_without_columns(self):
        stores = [store for store in random_stores(230, 200, 5) if store[1:3] == (["red"], [])][:8]
        for question in ["red(x) and not x = y", "all z: (z = x or z = y or red(z))",
                         "some z: some u: (red(z) and red(u) and not z = u and not z = x and not u = y)"]:
            for store in stores:
                self.all_alike(store, read_question(question), ["x", "y"])

    def test_many(self):
        for columns in range(3):
            stores = stores_with(columns, random_stores(220 + columns, 100, 7))
            rows = asked(223 + columns, 90, columns)
            self.assertGreater(len({(depth(question), len(names)) for question, names in rows}), 5 - columns)
            for at, (question, names) in enumerate(rows):
                for store in stores[at % 4::4][:4]:
                    self.all_alike(store, question, names)

    def test_paths_and_rings(self):
        for text in ["some z: (next(x, z) and some u: (next(z, u) and not u = y))",
                     "all z: (not next(z, x) or some u: (red(u) and not u = y and not u = z))",
                     "some z: (red(z) and not next(z, x) and not next(y, z) and not z = x)",
                     "not some z: (next(x, z) and next(z, y)) and red(x)"]:
            for many in [1, 2, 3, 9, 20]:
                for ring in [False, True]:
                    self.all_alike(chained(many, ring, range(0, many, 3)), read_question(text), ["x", "y"])

    def test_just_far(self):
        line = chained(12)
        for text, reach in [("next(x, y)", 0), ("some z: next(x, z) and next(x, y)", 1)]:
            question = read_question(text)
            codes = [code_of(line, (item,), reach) for item in range(12)]
            far = [(codes[one], codes[other]) for one, other in product(range(12), repeat=2)
                   if abs(one - other) > 2 * reach + 1]
            told = far_types(line, question, ["x", "y"])
            self.assertEqual([row[:3] for row in told], [(*key, far.count(key)) for key in sorted(set(far))])
            self.assertEqual([row[3] for row in told], [False] * len(told))

    def test_deep_questions_of_one_name(self):
        question = read_question(
            "all z: (z = x or some u: (next(z, u) or some v: (next(u, v) and not v = x and red(z))))")
        self.assertEqual(depth(question), 3)
        for many in [2, 4, 9]:
            self.all_alike(chained(many, marked=[1]), question, ["x"])


class Errors(Checks, unittest.TestCase):
    def each(self):
        """Each function, with wrong arguments behind the names."""
        return [(call,) for call in WITHOUT_ROW] + [(call, None) for call in WITH_ROW] + [(page, None, None)]

    def test_first_arguments_in_order(self):
        for call, *rest in self.each():
            for wrong in junk():
                self.fails(InvalidStore, wrong, call, wrong, None, None, *rest)
            for wrong in junk() + NO_QUESTIONS_OF_STORE:
                self.fails(InvalidQuestion, wrong, call, LINE, wrong, None, *rest)
            for wrong in NO_NAMES:
                self.fails(InvalidList, wrong, call, LINE, RED, wrong, *rest)
            for wrong in [["y"], ["y", "x"], ["x", "y"], [], ["z"]]:
                self.fails(InvalidList, wrong, call, LINE, LED, wrong, *rest)
            for wrong in [["x"], ["y"], [], ["x", "y", "z"], ["x", "z"], ["y", "x", "x"]]:
                self.fails(InvalidList, wrong, call, LINE, NEXT, wrong, *rest)
            for wrong in [["y"], ["x"], ["z", "x"]]:
                self.fails(InvalidList, wrong, call, LINE, ("all", "x", LED), wrong, *rest)

    def test_far_types_of_one_name(self):
        for names in [["x"], ["zz"]]:
            question = RED if names == ["x"] else TRUE
            self.fails(InvalidList, names, far_types, LINE, question, names)

    def test_is_answer_of_any_value(self):
        for question, names in [(TRUE, ["x"]), (TRUE, ["x", "y"]), (NEXT, ["x", "y"])]:
            for wrong in no_rows(len(names)) + junk():
                if wrong != (1,) or len(names) != 1:
                    self.assertIs(is_answer(LINE, question, names, wrong), False, wrong)
        self.assertIs(is_answer(LINE, TRUE, ["x"], (1,)), True)
        self.assertIs(is_answer(("store", [], [], [0, 1], []), TRUE, ["x"], (True,)), False)

    def test_rows(self):
        for call in [number_of, next_answer]:
            for names in [["x"], ["x", "y"]]:
                for wrong in no_rows(len(names)):
                    self.fails(InvalidItem, wrong, call, LINE, TRUE, names, wrong)
        for wrong in [item for item in NO_ITEMS if item != 5]:
            self.fails(InvalidItem, wrong, beginning, LINE, TRUE, ["x", "y"], wrong)

    def test_numbers(self):
        for wrong in [*NO_NUMBERS, 2, 3]:
            self.fails(InvalidNumber, wrong, numbered, LINE, RED, ["x"], wrong)
        for wrong in [*NO_NUMBERS, 3]:
            self.fails(InvalidNumber, wrong, page, LINE, RED, ["x"], wrong, None)
        for wrong in [*NO_NUMBERS, 1001]:
            self.fails(InvalidNumber, wrong, page, LINE, RED, ["x"], 2, wrong)
        self.assertEqual(page(LINE, RED, ["x"], 2, 1000), [])
        self.fails(InvalidNumber, 0, numbered, LINE, ("false",), ["x"], 0)

    def test_pages_are_new(self):
        one, other = page(LINE, RED, ["x"], 0, 9), page(LINE, RED, ["x"], 0, 9)
        one.append((7,))
        self.assertEqual(other, [(2,), (5,)])
        self.assertEqual(page(LINE, RED, ["x"], 0, 9), other)


class Limits(Checks, unittest.TestCase):
    def each_in_time(self, store, question, names):
        """Each function answers within seconds; what they tell fits together."""
        many = self.in_time(how_many, store, question, names)
        told = self.in_time(by_types, store, question, names)
        self.assertEqual(sum(number for _, number, flag in told if flag), many)
        self.assertEqual(sum(number for _, number, _ in told), len(store[3]) ** len(names))
        rows = self.in_time(page, store, question, names, max(0, many - 1000), 1000)
        self.assertEqual(len(rows), min(many, 1000))
        if rows:
            self.assertEqual(self.in_time(numbered, store, question, names, many - 1), rows[-1])
            self.assertEqual(self.in_time(number_of, store, question, names, rows[-1]), many - 1)
            self.assertIs(self.in_time(is_answer, store, question, names, rows[0]), True)
            self.assertIsNone(self.in_time(next_answer, store, question, names, rows[-1]))
            begun = self.in_time(beginning, store, question, names, rows[-1][0])
            if begun <= 1000:
                self.assertEqual(begun, len([row for row in rows if row[0] == rows[-1][0]]))
        if len(names) == 2:
            far = self.in_time(far_types, store, question, names)
            self.assertLessEqual(sum(row[2] for row in far), len(store[3]) ** 2)
        return many

    def test_great_stores(self):
        store = pieces_store(3, 400, 17)
        self.assertIn(len(types(store, 4)), range(40, 61))
        texts = [
            "some z: (next(x, z) and some w: (next(z, w) and red(w) and not w = y))",
            "some z: (not z = x and not z = y and (red(z) or blue(z)) and some w: ((next(z, w) or next(w, z)) and"
            " not w = x and (red(w) or next(w, y))))",
            "all z: (red(z) or some w: (next(w, z) and not w = x and not w = y)) or next(x, y)",
            "some z: some w: (next(x, z) and next(z, w) and not w = y) or all z: all w: (not next(w, z) or w = x or"
            " red(z) or not blue(y) or blue(w))",
            "all z: some w: ((next(z, w) or next(w, z) or w = x or next(x, w) or w = y or next(y, w) or red(w)) and"
            " (not next(w, x) or not next(z, y) or not red(w) or next(z, w)) and not w = z and not w = y)"]
        for text in texts:
            self.each_in_time(store, read_question(text), ["x", "y"])
        self.assertEqual(self.each_in_time(store, read_question("red(x) and not blue(y) and not red(y)"), ["y", "x"]),
                         len([fact for fact in store[4] if fact[1] == "red"])
                         * len([item for item in store[3] if not any(item in fact[2:] for fact in store[4]
                                                                     if fact[0] == "mark")]))

    def test_great_stores_of_other_forms(self):
        store = pieces_store(5, 400, 12)
        text = ("all z: (z = x or some u: (next(z, u) or some v: (next(u, v) or next(v, u) or not v = x and red(z) and"
                " (blue(v) or not next(v, z)))))")
        self.each_in_time(store, read_question(text), ["x"])
        ring = chained(400, ring=True, marked=range(0, 400, 10))
        text = "all z: some w: (not w = x and not w = y and (next(z, w) or red(w) and not next(w, y)))"
        self.assertEqual(self.each_in_time(ring, read_question(text), ["x", "y"]), 400 * 400)
        two = pieces_store(6, 400, 7, columns=("next", "up"))
        text = "some z: (next(x, z) and not up(z, y) or red(z) and not z = x and not up(z, x) and not up(y, z))"
        self.each_in_time(two, read_question(text), ["x", "y"])
        text = "all z: some w: ((next(z, w) or up(w, x) or red(w)) and not w = x and not blue(w) or up(z, w))"
        self.each_in_time(two, read_question(text), ["x"])
        grid = ("store", [], ["next", "up"], list(range(400)), sorted(
            [("link", "next", at, (at + 1) % 400) for at in range(400)]
            + [("link", "up", at, (at + 20) % 400) for at in range(400)]))
        text = "some z: (next(x, z) and up(z, y))"
        self.assertEqual(self.each_in_time(grid, read_question(text), ["x", "y"]), 400)

    def test_stores_for_any_use(self):
        for store in stores_for_any_use():
            for names in [["x"], ["x", "y"]]:
                self.assertEqual(how_many(store, TRUE, names), len(store[3]) ** len(names))


class Example(unittest.TestCase):
    def test_example(self):
        line = LINE
        led = ("some", "z", ("and", ("link", "next", "x", "z"), ("mark", "red", "z")))
        self.assertEqual(
            [how_many(line, led, ["x"]), page(line, led, ["x"], 0, 9), by_types(line, ("mark", "red", "x"), ["x"])],
            [2, [(1,), (4,)], [(((0,), (((0,), -1, -1),)), 4, False), (((0,), (((1,), -1, -1),)), 2, True)]])
        apart = ("and", ("mark", "red", "x"), ("not", ("same", "x", "y")))
        self.assertEqual(
            [how_many(line, apart, ["x", "y"]), numbered(line, apart, ["x", "y"], 5),
             number_of(line, apart, ["x", "y"], (3, 3)), next_answer(line, apart, ["x", "y"], (2, 6)),
             beginning(line, apart, ["x", "y"], 5), is_answer(line, apart, ["x", "y"], (2, 2)),
             far_types(line, apart, ["x", "y"])],
            [10, (5, 1), 5, (5, 1), 5, False, [
                (((0,), (((0,), -1, -1),)), ((0,), (((0,), -1, -1),)), 12, False),
                (((0,), (((0,), -1, -1),)), ((0,), (((1,), -1, -1),)), 5, False),
                (((0,), (((1,), -1, -1),)), ((0,), (((0,), -1, -1),)), 5, True),
                (((0,), (((1,), -1, -1),)), ((0,), (((1,), -1, -1),)), 2, True)]])


if __name__ == "__main__":
    unittest.main()
