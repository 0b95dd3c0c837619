"""Points [22] to [25]: codes of balls."""

import copy
import random
import unittest
from itertools import permutations, product

from samples import Checks, chained, distances_of, junk, random_stores, small_stores, stores_for_any_use
from test_balls import NO_RADII, NO_ROWS, TWO

from depthquestions.codes import beside, code_of, code_within, is_code, same_form, store_of_code, types
from depthquestions.errors import InvalidList, InvalidNumber, InvalidPaper, InvalidStore, Unlike
from depthquestions.stores import is_store, store_of

EXAMPLE = ("store", ["red"], ["next"], [1, 2, 3, 5, 8], [
    ("link", "next", 1, 2), ("link", "next", 2, 3), ("link", "next", 8, 8), ("mark", "red", 3)])
NO_MARKS = [None, True, 3, "red", ("red",), ["red", "red"], ["in"], ["Red"], [1], ["a", "b", "c", "d", "e"], {}]
NO_COLUMNS = [None, False, 3, "next", ("next",), ["next", "next"], ["some"], ["red"], [None], ["n", "m", "k"]]


def told_ball(store, row, radius):
    known = distances_of(store)
    return [item for item in store[3] if any(known.get((root, item), 10 ** 9) <= radius for root in row)]


def told_code(store, row, radius):
    """The code of a ball, by the words of the document."""
    _, _, columns, _, facts = store
    ball = told_ball(store, row, radius)
    come = list(dict.fromkeys(row))
    at = 0
    while at < len(come):
        for column in columns:
            ends = [fact[3] for fact in facts if fact[:3] == ("link", column, come[at])]
            ends += [fact[2] for fact in facts if fact[:2] == ("link", column) and fact[3] == come[at]]
            for end in ends:
                if end in ball and end not in come:
                    come.append(end)
        at += 1
    return numbered(store, row, come) if sorted(come) == ball else None


def numbered(store, row, come):
    """The roots and rows of a code with items numbered in this order."""
    _, marks, columns, _, facts = store
    rows = []
    for item in come:
        ends = []
        for column in columns:
            led = [come.index(one) for one in come if ("link", column, item, one) in facts]
            leading = [come.index(one) for one in come if ("link", column, one, item) in facts]
            ends += [*(led or [-1]), *(leading or [-1])]
        rows.append((tuple(1 if ("mark", mark, item) in facts else 0 for mark in marks), *ends))
    return (tuple(come.index(item) for item in row), tuple(rows))


def is_count_up_to(value, least, most):
    return type(value) is int and least <= value <= most


def is_told_code(marks, columns, value):
    """Whether a value is a code: the store that it tells has it for the code of its roots."""
    if type(value) is not tuple or len(value) != 2 or type(value[0]) is not tuple or type(value[1]) is not tuple:
        return False
    roots, rows = value
    if len(roots) > 4 or not all(is_count_up_to(root, 0, len(rows) - 1) for root in roots):
        return False
    for row in rows:
        if type(row) is not tuple or len(row) != 1 + 2 * len(columns) or type(row[0]) is not tuple:
            return False
        if len(row[0]) != len(marks) or not all(is_count_up_to(bit, 0, 1) for bit in row[0]):
            return False
        if not all(is_count_up_to(end, -1, len(rows) - 1) for end in row[1:]):
            return False
    forth = {("link", columns[at // 2], number, row[at + 1]) for number, row in enumerate(rows)
             for at in range(0, 2 * len(columns), 2) if row[at + 1] != -1}
    back = {("link", columns[at // 2], row[at + 2], number) for number, row in enumerate(rows)
            for at in range(0, 2 * len(columns), 2) if row[at + 2] != -1}
    marked = {("mark", mark, number) for number, row in enumerate(rows) for mark, bit in zip(marks, row[0]) if bit}
    store = ("store", marks, columns, list(range(len(rows))), sorted(forth | marked))
    return forth == back and is_store(store) and told_code(store, roots, len(rows)) == value


def near_values(value):
    """Values that differ from a tuple in one place: a number more, less or of another kind, a part left out or twice,
    a list for a tuple, two parts that have changed their places."""
    if not isinstance(value, tuple):
        found = [value + 1, value - 1, -1 - value, True, False, None, str(value), (value,)]
        return [other for other in found if other is not value]
    found = [list(value), (*value, value), (*value, 0), (*value, ())]
    for at, part in enumerate(value):
        found += [(*value[:at], other, *value[at + 1:]) for other in near_values(part)]
        found += [value[:at] + value[at + 1:], value[:at] + value[at:at + 1] + value[at:]]
        found += [(*value[:at], value[at + 1], part, *value[at + 2:])] if at + 1 < len(value) else []
    return found


def with_other_numbers(code, order):
    """A code with other numbers: a number becomes its place in the order."""
    roots, rows = code
    new = {number: order.index(number) for number in range(len(rows))} | {-1: -1}
    return (tuple(new[root] for root in roots),
            tuple((rows[number][0], *[new[end] for end in rows[number][1:]]) for number in order))


def some_codes():
    """Codes with their marks and columns."""
    found = []
    chance = random.Random(50)
    for store in random_stores(51, 60, 6) + stores_for_any_use()[1:]:
        for many in range(5 if store[3] else 1):
            row = tuple(chance.choices(store[3], k=many)) if store[3] else ()
            found.append((store[1], store[2], code_of(store, row, chance.randint(0, 3))))
    return found


class CodeOf(Checks, unittest.TestCase):
    def test_order(self):
        store = store_of([], ["n", "m"], [1, 2, 3, 4, 5, 6, 7], [
            ("link", "n", 3, 7), ("link", "n", 5, 3), ("link", "m", 3, 1), ("link", "m", 6, 3), ("link", "m", 7, 2),
            ("link", "n", 1, 4)])
        code = code_of(store, (3,), 2)
        self.assert_same(code, ((0,), (
            ((), 1, 2, 3, 4), ((), -1, 0, 5, -1), ((), 0, -1, -1, -1), ((), 6, -1, -1, 0), ((), -1, -1, 0, -1),
            ((), -1, -1, -1, 1), ((), -1, 3, -1, -1))))
        turned = ("store", [], ["m", "n"], store[3], store[4])
        self.assert_same(code_of(turned, (3,), 1), ((0,), (
            ((), 1, 2, 3, 4), ((), -1, 0, -1, -1), ((), 0, -1, -1, -1), ((), -1, -1, -1, 0), ((), -1, -1, 0, -1))))

    def test_rows(self):
        path = chained(6, marked=[2])
        self.assert_same(code_of(path, (), 5), ((), ()))
        self.assert_same(code_of(path, (2, 0, 2), 0), ((0, 1, 0), (((1,), -1, -1), ((0,), -1, -1))))
        self.assert_same(code_of(path, (3, 2), 0), ((0, 1), (((0,), -1, 1), ((1,), 0, -1))))
        self.assert_same(code_of(path, (5, 5, 5, 5), 1), ((0, 0, 0, 0), (((0,), -1, 1), ((0,), 0, -1))))
        self.assert_same(code_of(radius=1, row=(0, 5), store=path), (
            (0, 1), (((0,), 2, -1), ((0,), -1, 3), ((0,), -1, 0), ((0,), 1, -1))))

    def test_links_that_lead_out(self):
        ring = chained(4, ring=True)
        self.assert_same(code_of(ring, (0,), 0), ((0,), (((0,), -1, -1),)))
        self.assert_same(code_of(ring, (0,), 1), ((0,), (((0,), 1, 2), ((0,), -1, 0), ((0,), 0, -1))))
        self.assert_same(code_of(ring, (0,), 2), ((0,), (((0,), 1, 2), ((0,), 3, 0), ((0,), 0, 3), ((0,), 2, 1))))
        self.assert_same(code_of(chained(1, ring=True), (0,), 0), ((0,), (((0,), 0, 0),)))
        self.assert_same(code_of(TWO, (4,), 1), ((0,), (((), 0, 0, 1, -1), ((), -1, -1, -1, 0))))

    def test_many(self):
        for store in random_stores(52, 50, 7) + stores_for_any_use():
            before = copy.deepcopy(store)
            rows = [row for many in range(5) for row in product(store[3], repeat=many)]
            for row in rows[::1 + len(rows) // 25]:
                for radius in [0, 1, 2, 40]:
                    self.assert_same(code_of(store, row, radius), told_code(store, row, radius))
            self.assertEqual(store, before)

    def test_errors(self):
        for wrong in junk():
            self.fails(InvalidStore, wrong, code_of, wrong, None, -1)
        for wrong in NO_ROWS:
            self.fails(InvalidList, wrong, code_of, TWO, wrong, -1)
        for wrong in NO_RADII:
            self.fails(InvalidNumber, wrong, code_of, TWO, (1, 2), wrong)


class SameForm(Checks, unittest.TestCase):
    def maps(self, one, row, other, other_row, radius):
        """All maps between two balls as the document asks for them."""
        if len(row) != len(other_row):
            return []
        items, others = told_ball(one, row, radius), told_ball(other, other_row, radius)
        if len(items) != len(others):
            return []
        facts, other_facts = [sorted(fact for fact in store[4] if set(fact[2:]) <= set(ball))
                              for store, ball in ((one, items), (other, others))]
        found = []
        for images in permutations(others):
            image = dict(zip(items, images))
            led = sorted((*fact[:2], *[image[item] for item in fact[2:]]) for fact in facts)
            if led == other_facts and tuple(image[item] for item in row) == other_row:
                found.append(sorted(image.items()))
        return found

    def test_ordinary(self):
        path = chained(5)
        self.assert_same(same_form(path, (1,), path, (3,), 1), [(0, 2), (1, 3), (2, 4)])
        self.assertIsNone(same_form(path, (0,), path, (4,), 1))
        self.assertEqual(same_form(path, (0,), path, (4,), 0), [(0, 4)])
        self.assertEqual(same_form(radius=9, other_row=(12,), other=chained(5, first=10), row=(2,), one=path),
                         [(item, item + 10) for item in range(5)])
        turned = store_of(["red"], ["next"], [1, 2, 3], [("link", "next", 3, 2), ("link", "next", 2, 1)])
        self.assertEqual(same_form(turned, (2,), path, (2,), 1), [(1, 3), (2, 2), (3, 1)])
        self.assert_same(same_form(path, (), turned, (), 3), [])

    def test_rows(self):
        path = chained(5)
        for row, other_row in [((), (1,)), ((1,), (1, 1)), ((2, 3), (2,)), ((1, 1), (1, 2)), ((1, 2), (2, 1))]:
            self.assertIsNone(same_form(path, row, path, other_row, 1))
            self.assertIsNone(same_form(path, other_row, path, row, 0))
        self.assertEqual(same_form(path, (1, 1), path, (2, 2), 0), [(1, 2)])

    def test_many(self):
        stores = [store for store in random_stores(53, 200, 5) if len(store[1]) < 2 and len(store[2]) == 1]
        chance = random.Random(54)
        alike = 0
        for one, other in [(one, other) for one in stores for other in stores if one[1:3] == other[1:3]][::2]:
            row, other_row = [tuple(chance.choices(store[3], k=chance.choice([1, 1, 2]))) if store[3] else ()
                              for store in (one, other)]
            radius = chance.randint(0, 2)
            maps = self.maps(one, row, other, other_row, radius)
            self.assertLessEqual(len(maps), 1)
            alike += len(maps)
            found = same_form(one, row, other, other_row, radius)
            self.assert_same(found, maps[0] if maps else None)
            codes_alike = code_of(one, row, radius) == code_of(other, other_row, radius)
            self.assertIs(codes_alike, found is not None)
        self.assertGreater(alike, 50)

    def test_errors_in_order(self):
        unlike = ("store", [], ["up", "next"], [1], [])
        for wrong in junk():
            self.fails(InvalidStore, wrong, same_form, wrong, [], None, [], -1)
            self.fails(InvalidStore, wrong, same_form, TWO, (1,), wrong, [], 0)
        for wrong in NO_ROWS:
            self.fails(InvalidList, wrong, same_form, TWO, wrong, None, [], -1)
            self.fails(Unlike, unlike, same_form, TWO, (1,), unlike, wrong, 0)
            self.fails(InvalidList, wrong, same_form, TWO, (1,), TWO, wrong, 0)
        for wrong in NO_RADII:
            self.fails(InvalidNumber, wrong, same_form, TWO, (1, 2), None, [], wrong)
        for signs in [([], ["next"]), (["red"], ["next", "up"]), ([], []), ([], ["up", "next"])]:
            other = ("store", *signs, [1], [])
            self.fails(Unlike, other, same_form, TWO, (9,), other, (1,), 0)


class Types(Checks, unittest.TestCase):
    def test_ordinary(self):
        path = chained(5)
        end, begin = ((0,), (((0,), -1, 1), ((0,), 0, -1))), ((0,), (((0,), 1, -1), ((0,), -1, 0)))
        inner = ((0,), (((0,), 1, 2), ((0,), -1, 0), ((0,), 0, -1)))
        self.assert_same(types(path, 1), [(end, [4]), (begin, [0]), (inner, [1, 2, 3])])
        self.assertEqual(types(radius=3, store=("store", [], [], [], [])), [])

    def test_many(self):
        for store in random_stores(55, 60, 9) + stores_for_any_use():
            for radius in [0, 1, 2]:
                found = types(store, radius)
                codes = [code for code, _ in found]
                self.assertEqual(codes, sorted(set(codes)))
                for code, items in found:
                    self.assertEqual(items, sorted(items))
                    for item in items:
                        self.assert_same(told_code(store, (item,), radius), code)
                self.assertEqual(sorted(item for _, items in found for item in items), store[3])
                self.assert_new_lists(found, store)

    def test_errors(self):
        for wrong in junk():
            self.fails(InvalidStore, wrong, types, wrong, -1)
        for wrong in NO_RADII:
            self.fails(InvalidNumber, wrong, types, TWO, wrong)

    def test_limits(self):
        ring = chained(2000, ring=True, marked=range(0, 2000, 3))
        found = self.in_time(types, ring, 24)
        self.assertEqual([len(items) for _, items in found if len(items) > 10], [651, 651, 651])
        pieces = store_of(["a", "b", "c", "d"], ["n", "m"], list(range(2000)), [
            (*link, item, 50 * (item // 50) + to(item % 50) % 50) for item in range(2000) for link, to in (
                (("link", "n"), lambda at: at + 1), (("link", "m"), lambda at: 7 * at + 3))] + [
                    ("mark", "a", item) for item in range(0, 2000, 50)])
        found = self.in_time(types, pieces, 40)
        self.assertEqual([len(items) for _, items in found], [40] * 50)


class IsCode(Checks, unittest.TestCase):
    def judged(self, marks, columns, value):
        before = copy.deepcopy(value)
        found = is_code(marks, columns, value)
        self.assertIs(found, is_told_code(marks, columns, value), value)
        self.assertEqual(repr(value), repr(before))
        return found

    def test_codes(self):
        for marks, columns, code in some_codes():
            self.assertIs(self.judged(marks, columns, code), True)
        self.assertIs(is_code(value=((), ()), columns=[], marks=[]), True)

    def test_values_near_codes(self):
        right = 0
        for marks, columns, code in some_codes()[::3]:
            for value in near_values(code):
                right += self.judged(marks, columns, value)
        self.assertGreater(right, 50)

    def test_other_numbers(self):
        right = 0
        for marks, columns, code in some_codes():
            if len(code[1]) < 5:
                for order in permutations(range(len(code[1]))):
                    value = with_other_numbers(code, list(order))
                    right += self.judged(marks, columns, value) and value != code
        self.assertEqual(right, 0)

    def test_rows_that_nothing_reaches(self):
        lone = ((0,), -1, -1)
        for value in [((), (lone,)), ((0,), (lone, lone)), ((0,), (lone, ((0,), 1, 1))), ((1,), (lone, lone)),
                      ((1, 0), (lone, lone)), ((0, 2), (lone, lone)), ((-1,), (lone,)), ((0,), ())]:
            self.assertIs(self.judged(["red"], ["next"], value), False)
        for value in [((0, 1), (lone, lone)), ((0, 0, 1), (lone, lone)), ((0, 1, 2, 0), (lone, lone, lone))]:
            self.assertIs(self.judged(["red"], ["next"], value), True)
        self.assertIs(is_code(["red"], ["next"], ((0, 1, 2, 3, 4), (lone,) * 5)), False)
        self.assertIs(is_code(["red"], ["next"], ((0, 0, 0, 0, 0), (lone,))), False)

    def test_links_twice(self):
        for value in [
                ((0, 1, 2), (((), 2, -1), ((), 2, -1), ((), -1, 1))),
                ((0, 1, 2), (((), 1, -1), ((), 1, 0), ((), -1, 1))),
                ((0, 1), (((), 1, -1), ((), -1, -1))), ((0, 1), (((), -1, 1), ((), -1, -1))),
                ((0, 1), (((), 0, 1), ((), 0, -1))), ((0,), (((), 0, -1),)), ((0,), (((), -1, 0),))]:
            self.assertIs(self.judged([], ["next"], value), False)

    def test_other_marks_and_columns(self):
        code = code_of(EXAMPLE, (2,), 1)
        for marks, columns in product([[], ["red"], ["red", "blue"]], [[], ["next"], ["next", "up"]]):
            self.assertIs(self.judged(marks, columns, code), len(marks) == len(columns) == 1)

    def test_long(self):
        for many in [100, 500, 2000]:
            path = ((0,), tuple(((), at + 1 if at + 1 < many else -1, at - 1) for at in range(many)))
            self.assertIs(self.in_time(is_code, [], ["next"], path), True)
            self.assertIs(is_code([], ["next"], ((0,), path[1][:-1])), False)
            turned = ((0,), tuple(((), at - 1, at + 1 if at + 1 < many else -1) for at in range(many)))
            self.assertIs(is_code([], ["next"], turned), True)
            self.assertIs(is_code([], ["next"], ((many - 1,), turned[1])), False)
        long = ((0,), tuple(((), at + 1 if at < 2000 else -1, at - 1) for at in range(2001)))
        self.assertIs(is_code([], ["next"], long), False)

    def test_any_value(self):
        for value in [*junk(), EXAMPLE, ("a", "b"), ([], []), ((), []), ([], ()), ((0,), ((),)), ((0,), (0,)),
                      ((0,), "a"),
                      ((0,), ((["x"], -1, -1),)), ((0,), (([0], -1, -1),)), ((0,), (((0,), -1, -1, -1),)),
                      ((None,), (((0,), -1, -1),)), ((0,), [((0,), -1, -1)]), ([0], (((0,), -1, -1),))]:
            self.assertIs(is_code(["red"], ["next"], value), False)

    def test_errors(self):
        for wrong in NO_MARKS:
            self.fails(InvalidList, wrong, is_code, wrong, None, None)
            self.fails(InvalidList, wrong, store_of_code, wrong, None, None)
            self.fails(InvalidList, wrong, code_within, wrong, None, None, None, None)
            self.fails(InvalidList, wrong, beside, wrong, None, None, None)
        for wrong in NO_COLUMNS:
            self.fails(InvalidList, wrong, is_code, ["red"], wrong, None)
            self.fails(InvalidList, wrong, store_of_code, ["red"], wrong, None)
            self.fails(InvalidList, wrong, code_within, ["red"], wrong, None, None, None)
            self.fails(InvalidList, wrong, beside, ["red"], wrong, None, None)


class StoreOfCode(Checks, unittest.TestCase):
    def test_ordinary(self):
        code = ((0, 1), (((1, 0), 1, -1), ((0, 1), 1, 0)))
        self.assertIs(is_code(["a", "b"], ["next"], code), False)
        code = ((0, 1), (((1, 0), -1, 1), ((0, 1), 0, -1)))
        marks, columns = ["b", "a"], ["next"]
        store = store_of_code(code=code, columns=columns, marks=marks)
        self.assert_same(store, ("store", ["b", "a"], ["next"], [0, 1], [
            ("link", "next", 1, 0), ("mark", "a", 1), ("mark", "b", 0)]))
        self.assert_new_lists(store, marks, columns)
        self.assert_same(store_of_code([], [], ((), ())), ("store", [], [], [], []))

    def test_and_back(self):
        for marks, columns, code in some_codes():
            store = store_of_code(marks, columns, code)
            self.assertIs(is_store(store), True)
            self.assertEqual(store[1:4], (marks, columns, list(range(len(code[1])))))
            self.assert_same(told_code(store, code[0], 10 ** 6), code)
            self.assert_same(code_of(store, code[0], 40), code)
            self.assert_new_lists(store, marks, columns)

    def test_errors(self):
        for wrong in [*junk(), ((0,), (((0,), 1, -1),)), ((1,), (((0,), -1, -1),)), [(0,), (((0,), -1, -1),)]]:
            self.fails(InvalidPaper, wrong, store_of_code, ["red"], ["next"], wrong)
            self.fails(InvalidPaper, wrong, code_within, ["red"], ["next"], wrong, None, None)
            self.fails(InvalidPaper, wrong, beside, ["red"], ["next"], wrong, None)
            self.fails(InvalidPaper, wrong, beside, ["red"], ["next"], ((), ()), wrong)


class CodeWithin(Checks, unittest.TestCase):
    def test_ordinary(self):
        code = code_of(chained(9), (4,), 3)
        self.assert_same(code_within(["red"], ["next"], code, (0,), 3), code)
        self.assert_same(code_within(["red"], ["next"], code, (), 3), ((), ()))
        self.assert_same(code_within(["red"], ["next"], code, (5, 0), 1), (
            (0, 1), (((0,), -1, 2), ((0,), 3, 4), ((0,), 0, 3), ((0,), 2, 1), ((0,), 1, -1))))
        self.assert_same(code_within(radius=0, row=(2, 2), code=code, columns=["next"], marks=["red"]),
                         ((0, 0), (((0,), -1, -1),)))

    def test_balls_within(self):
        compared = 0
        for store in random_stores(56, 80, 8):
            for radius in [1, 2, 3]:
                for item in store[3]:
                    code = code_of(store, (item,), radius)
                    numbers = {one: number for one, number in same_form(
                        store, (item,), store_of_code(store[1], store[2], code), (0,), radius)}
                    for other, inner in product(numbers, range(radius)):
                        ball = told_ball(store, (item, other), inner)
                        if all(one in numbers for one in ball):
                            compared += 1
                            row = (numbers[other], numbers[item], numbers[other])
                            self.assert_same(code_within(store[1], store[2], code, row, inner),
                                             code_of(store, (other, item, other), inner))
        self.assertGreater(compared, 500)

    def test_as_the_store_of_the_code(self):
        chance = random.Random(57)
        for marks, columns, code in some_codes():
            store = store_of_code(marks, columns, code)
            for radius in [0, 1, 2, 40]:
                row = tuple(chance.choices(store[3], k=chance.randint(0, 4))) if store[3] else ()
                self.assert_same(code_within(marks, columns, code, row, radius), told_code(store, row, radius))

    def test_errors_in_order(self):
        code = code_of(EXAMPLE, (2,), 1)
        for wrong in [(3,), (0, 3), (-1,), (True,), (False, 1), [0], [], None, 0, "0", (0, 0, 0, 0, 0), {}, ((0,),),
                      (None,), (10 ** 29,)]:
            self.fails(InvalidList, wrong, code_within, ["red"], ["next"], code, wrong, -1)
        self.fails(InvalidList, (0,), code_within, [], [], ((), ()), (0,), -1)
        for wrong in NO_RADII:
            self.fails(InvalidNumber, wrong, code_within, ["red"], ["next"], code, (0, 2), wrong)


class Beside(Checks, unittest.TestCase):
    def test_ordinary(self):
        one, other = code_of(EXAMPLE, (2,), 1), code_of(EXAMPLE, (8,), 1)
        self.assert_same(beside(["red"], ["next"], one, other), code_of(EXAMPLE, (2, 8), 1))
        self.assert_same(beside(other=one, one=other, columns=["next"], marks=["red"]), code_of(EXAMPLE, (8, 2), 1))
        self.assert_same(beside(["red"], ["next"], ((), ()), one), one)
        self.assert_same(beside(["red"], ["next"], one, ((), ())), one)
        self.assert_same(beside(["red"], ["next"], one, one), (
            (0, 1), (((0,), 2, 3), ((0,), 4, 5), ((1,), -1, 0), ((0,), 0, -1), ((1,), -1, 1), ((0,), 1, -1))))

    def test_balls_of_one_store(self):
        chance = random.Random(58)
        compared = {many: 0 for many in range(5)}
        for store in random_stores(59, 2500, 14) + small_stores():
            many = chance.randint(0, 4) if store[3] else 0
            at, radius = chance.randint(0, many), chance.randint(0, 2)
            whole = tuple(chance.choices(store[3], k=many)) if store[3] else ()
            row, second = whole[:at], whole[at:]
            one, other = told_ball(store, row, radius), told_ball(store, second, radius)
            between = [fact for fact in store[4] if fact[0] == "link" and (
                fact[2] in one and fact[3] in other or fact[2] in other and fact[3] in one)]
            if not set(one) & set(other) and not between:
                compared[many] += 1
                found = beside(store[1], store[2], code_of(store, row, radius), code_of(store, second, radius))
                self.assert_same(found, code_of(store, whole, radius))
        self.assertTrue(all(number > 20 for number in compared.values()), compared)

    def test_too_many(self):
        two, three = code_of(EXAMPLE, (1, 1), 0), code_of(EXAMPLE, (2, 3, 5), 0)
        self.fails(InvalidList, three, beside, ["red"], ["next"], two, three)
        self.fails(InvalidList, two, beside, ["red"], ["next"], three, two)
        four = code_of(EXAMPLE, (2, 3, 5, 1), 0)
        self.assert_same(beside(["red"], ["next"], four, ((), ())), four)
        self.fails(InvalidPaper, ((), (1,)), beside, ["red"], ["next"], four, ((), (1,)))
        self.assertEqual(len(beside(["red"], ["next"], two, two)[0]), 4)

    def test_limits(self):
        ring = chained(100, ring=True)
        code = code_of(ring, (0, 50), 40)
        found = self.in_time(beside, ["red"], ["next"], code, code)
        self.assertEqual((found[0], len(found[1])), ((0, 1, 2, 3), 200))
        self.assertIs(is_code(["red"], ["next"], found), True)


class Example(unittest.TestCase):
    def test_example(self):
        store = EXAMPLE
        self.assertEqual(
            [code_of(store, (2,), 1), code_of(store, (3, 3), 0), code_of(store, (8,), 0), code_of(store, (), 3)],
            [((0,), (((0,), 1, 2), ((1,), -1, 0), ((0,), 0, -1))), ((0, 0), (((1,), -1, -1),)),
             ((0,), (((0,), 0, 0),)), ((), ())])
        self.assertEqual(
            [same_form(store, (1,), store, (2,), 0), same_form(store, (1,), store, (2,), 1), types(store, 0)],
            [[(1, 2)], None, [(((0,), (((0,), -1, -1),)), [1, 2, 5]), (((0,), (((0,), 0, 0),)), [8]),
                              (((0,), (((1,), -1, -1),)), [3])]])
        two = code_of(store, (2,), 1)
        self.assertEqual(
            [store_of_code(["red"], ["next"], two)[4], code_within(["red"], ["next"], two, (2,), 1),
             is_code(["red"], ["next"], ((0,), (((0,), 1, -1),)))],
            [[("link", "next", 0, 1), ("link", "next", 2, 0), ("mark", "red", 1)],
             ((0,), (((0,), 1, -1), ((0,), -1, 0))), False])
        self.assertTrue(beside(["red"], ["next"], code_of(store, (3,), 0), code_of(store, (8,), 0))
                        == code_of(store, (3, 8), 0))


if __name__ == "__main__":
    unittest.main()
