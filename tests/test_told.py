"""Points [30] and [31]: papers for answers."""

import copy
import random
import unittest

from samples import Checks, chained, junk, random_stores, reading, small_stores, stores_for_any_use
from test_looking import FIVE_DEEP, Looker, bindings_of, questions_for, range_of, stores_with
from test_plain import NO_ITEMS, NO_QUESTIONS_OF_STORE, STORE

from depthquestions.errors import InvalidFlag, InvalidList, InvalidQuestion, InvalidStore
from depthquestions.looking import looks, most_looks
from depthquestions.stores import store_of
from depthquestions.texts import read_question
from depthquestions.told import is_told_by, told_by

TRUE, FALSE, RED, NEXT = ("true",), ("false",), ("mark", "red", "x"), ("link", "next", "x", "y")
LED = ("some", "y", NEXT)
THREE = ("store", ["red"], ["next"], [1, 2, 3], [("link", "next", 1, 2), ("link", "next", 2, 3), ("mark", "red", 3)])


class Judge(Looker):
    """Papers judged by the words of the document."""

    def is_paper(self, one, bound, flag, value):
        word = one[0]
        pair = type(value) is tuple and len(value) == 2
        if word == "not":
            return self.is_paper(one[1], bound, not flag, value)
        if word in ("and", "or"):
            if flag is (word == "and"):
                return pair and all(self.is_paper(part, bound, flag, paper) for part, paper in zip(one[1:], value))
            right = pair and type(value[0]) is int and value[0] in (0, 1)
            return right and self.is_paper(one[1 + value[0]], bound, flag, value[1])
        if word in ("some", "all"):
            if flag is (word == "some"):
                return pair and self.is_row(one, bound, flag, value)
            return type(value) is list and self.is_list(one, bound, flag, value)
        return type(value) is tuple and value == () and reading(self.store, one, bound) is flag

    def is_row(self, one, bound, flag, value):
        if type(value) is not tuple or len(value) != 2 or type(value[0]) is not int or value[0] not in self.store[3]:
            return False
        return self.is_paper(one[2], {**bound, one[1]: value[0]}, flag, value[1])

    def is_list(self, one, bound, flag, value):
        near, far = self.near(one, bound), self.far(one, bound)
        if len(value) != len(near) + len(far):
            return False
        rows = [[item] for item in near] + far
        return all(self.is_row(one, bound, flag, pair) and pair[0] in row for pair, row in zip(value, rows))


def near_papers(value, chance):
    """Values that differ from a paper in one place."""
    if type(value) is int:
        return [value + 1, value - 1, True, False, None, str(value), chance.randint(0, 9)]
    if not isinstance(value, (tuple, list)):
        return [0, ()]
    kind = type(value)
    found = [(*value, ()), [*value, (1, ())], (0, value), None, *([list(value), tuple(value)][kind is tuple:][:1])]
    found += [list(value)] if kind is tuple else []
    for at, part in enumerate(value):
        if len(value) < 8 or chance.random() < 0.3:
            found += [kind([*value[:at], other, *value[at + 1:]]) for other in near_papers(part, chance)]
            found += [kind([*value[:at], *value[at + 1:]]), kind([*value[:at], part, part, *value[at + 1:]])]
            found += [kind([*value[:at], value[at + 1], part, *value[at + 2:]])] if at + 1 < len(value) else []
    return found


def items_in(paper, question):
    """How many items stand in a paper for a question, whatever its flag."""
    word = question[0]
    if word == "not":
        return items_in(paper, question[1])
    if word in ("some", "all"):
        rows = paper if isinstance(paper, list) else [paper]
        return sum(1 + items_in(inner, question[2]) for _, inner in rows)
    if word in ("and", "or"):
        if paper[0] in (0, 1) and type(paper[0]) is int:
            return items_in(paper[1], question[1 + paper[0]])
        return sum(items_in(inner, part) for inner, part in zip(paper, question[1:]))
    return 0


class ToldBy(Checks, unittest.TestCase):
    def told(self, store, question, binding):
        """What told_by tells, which is right."""
        before = copy.deepcopy((store, question, binding))
        result = told_by(store, question, binding)
        self.assertEqual(before, (store, question, binding))
        self.assertIs(type(result), tuple)
        flag, paper = result
        self.assertIs(flag, reading(store, question, dict(binding)))
        self.assertIs(is_told_by(store, question, binding, flag, paper), True)
        self.assertIs(is_told_by(store, question, binding, not flag, paper), False)
        self.assertTrue(Judge(store).is_paper(question, dict(binding), flag, paper))
        self.assertLessEqual(items_in(paper, question), most_looks(store, question))
        self.assert_new_lists(result, store, binding)
        return result

    def test_each_form(self):
        for question, binding, expected in [
                (TRUE, [], (True, ())), (FALSE, [], (False, ())), (RED, [("x", 3)], (True, ())),
                (RED, [("x", 1)], (False, ())), (NEXT, [("x", 1), ("y", 2)], (True, ())),
                (("same", "x", "y"), [("x", 1), ("y", 2)], (False, ())), (("not", RED), [("x", 1)], (True, ())),
                (("not", ("not", RED)), [("x", 1)], (False, ())), (("and", TRUE, TRUE), [], (True, ((), ()))),
                (("and", TRUE, FALSE), [], (False, (1, ()))), (("and", FALSE, TRUE), [], (False, (0, ()))),
                (("or", FALSE, FALSE), [], (False, ((), ()))), (("or", FALSE, TRUE), [], (True, (1, ()))),
                (("or", TRUE, FALSE), [], (True, (0, ()))), (LED, [("x", 1)], (True, (2, ()))),
                (("some", "y", FALSE), [], (False, [(1, ()), (3, ())])),
                (("all", "y", TRUE), [], (True, [(1, ()), (3, ())])), (("all", "x", RED), [], (False, (1, ()))),
                (("all", "y", ("not", NEXT)), [("x", 3)], (True, [(2, ()), (3, ()), (1, ())]))]:
            self.assertEqual(self.told(THREE, question, binding), expected)
        self.assertEqual(told_by(binding=[("x", 1)], question=LED, store=THREE), (True, (2, ())))

    def test_any_of_two_right_ones(self):
        for question in [("and", FALSE, FALSE), ("or", TRUE, TRUE), ("some", "x", TRUE), ("all", "x", FALSE)]:
            self.told(THREE, question, [])

    def test_without_items(self):
        empty = ("store", ["red"], ["next"], [], [])
        for question, expected in [
                (("some", "x", RED), (False, [])), (("all", "x", FALSE), (True, [])),
                (("and", ("all", "x", RED), ("not", ("some", "y", TRUE))), (True, ([], [])))]:
            self.assertEqual(self.told(empty, question, []), expected)

    def test_many(self):
        for columns in range(3):
            stores = stores_with(columns, random_stores(80 + columns, 120, 7) + stores_for_any_use()[:5])
            for at, question in enumerate(questions_for(83 + columns, 90, columns)):
                for store in stores[at % 5::5][:4]:
                    for binding in bindings_of(store, question)[::5]:
                        self.told(store, question, binding)

    def test_limits(self):
        chance = random.Random(86)
        store = store_of(["a", "b", "c", "d"], ["next"], range_of(2000), [
            ("link", "next", item, (item + 1) % 2000) for item in range(2000)] + [
                ("mark", mark, item) for mark in "abcd" for item in range(2000) if chance.random() < 0.5])
        asked = read_question("all z: (" + " and ".join(["some w: (next(z, w) and not w = x)"] * 3) + " or next(z, x))")
        self.assertLess(10 ** 5, most_looks(store, asked))
        for question in [asked, ("not", asked)]:
            flag, paper = self.in_time(told_by, store, question, [("x", 7)])
            self.assertIs(flag, question == asked)
            self.assertIs(self.in_time(is_told_by, store, question, [("x", 7)], flag, paper), True)
        never = read_question("some z: (some w: (next(z, w) and z = w) or some w: (next(w, z) and z = w))")
        flag, paper = self.in_time(told_by, store, never, [])
        self.assertEqual((flag, items_in(paper, never)), (False, looks(store, never, [])))
        self.assertIs(self.in_time(is_told_by, store, never, [], False, paper), True)

    def test_as_many_looks_and_tuples_as_there_may_be(self):
        chance = random.Random(99)
        marked = [(mark, at) for mark in "abcd" for at in range(88) if chance.random() < 0.5]
        store = store_of(["a", "b", "c", "d"], ["next"], range_of(22 * 88), [
            ("link", "next", item, (item + 1) % (22 * 88)) for item in range(22 * 88)] + [
                ("mark", mark, item) for mark, at in marked for item in range(at, 22 * 88, 88)])
        asked = ("or", ("same", "x", "y"), ("same", "z", "z"))
        for _ in range(27):
            asked = ("and", ("same", "z", "z"), asked)
        asked = ("all", "x", ("all", "y", ("all", "z", asked)))
        self.assertLess(most_looks(store, asked), 200000)
        flag, paper = self.in_time(told_by, store, asked, [])
        self.assertEqual((flag, len(paper)), (True, 88))
        inner = [rows for _, rows in paper]
        innermost = [rows for middle in inner for _, rows in middle]
        self.assertEqual(88 + sum(map(len, inner)) + sum(map(len, innermost)), looks(store, asked, []))
        self.assertEqual(len(set(map(id, inner + innermost))), len(inner + innermost))
        self.assertIs(self.in_time(is_told_by, store, asked, [], True, paper), True)


class IsToldBy(Checks, unittest.TestCase):
    def test_papers_of_a_list(self):
        last = ("not", LED)
        right = [(2, ()), (3, ()), (1, ())]
        asked = (THREE, last, [("x", 3)], True)
        self.assertIs(is_told_by(*asked, right), True)
        self.assertIs(is_told_by(value=right, flag=True, binding=[("x", 3)], question=last, store=THREE), True)
        for wrong in [
                right[:2], right[1:], right[::2], right + [(1, ())], [(3, ()), (2, ()), (1, ())],
                [(1, ()), (2, ()), (3, ())], [(2, ()), (3, ()), (2, ())], [(2, ()), (3, ()), (3, ())], tuple(right),
                [(2, ()), (3, ()), [1, ()]], [(2, ()), [3, ()], (1, ())], [(2, []), (3, ()), (1, ())],
                [(2, ()), (3, ()), (True, ())], [(2, ()), (3, ()), (4, ())], [(2, ()), (3, ()), (0, ())], [], (), None,
                [(2, ()), (3, ()), (1,)], [(2, ()), (3, ()), (1, (), ())], [(2, ()), (3, ()), (None, ())],
                [(2, ()), (3, ()), (-1, ())], [2, 3, 1], (right, ()), [right], (3, ()), (2, ())]:
            self.assertIs(is_told_by(*asked, wrong), False, wrong)
            self.assertFalse(Judge(THREE).is_paper(last, {"x": 3}, True, wrong))
        self.assertIs(is_told_by(THREE, last, [("x", 3)], False, right), False)
        self.assertIs(is_told_by(THREE, LED, [("x", 3)], False, right), True)

    def test_other_far_items_of_a_type(self):
        store = chained(9, marked=[0, 4])
        asked = (store, ("all", "y", ("not", NEXT)), [("x", 8)], True)
        right = {(a, b) for a in range(9) for b in range(9) if is_told_by(*asked, [(7, ()), (8, ()), (a, ()), (b, ())])}
        self.assertEqual(right, {(a, b) for a in [1, 2, 3, 5, 6] for b in [0, 4]})

    def test_choices(self):
        self.assertIs(is_told_by(THREE, ("some", "x", TRUE), [], True, (2, ())), True)
        self.assertIs(is_told_by(THREE, ("some", "x", RED), [], True, (3, ())), True)
        for wrong in [(1, ()), (4, ()), [3, ()], (3, []), (3,), (3, (), ()), 3, (), None, [(3, ())], ((3, ()),),
                      ("3", ())]:
            self.assertIs(is_told_by(THREE, ("some", "x", RED), [], True, wrong), False)
        for wrong in [(True, ()), (1, (1,)), (1, None)]:
            self.assertIs(is_told_by(THREE, ("some", "x", TRUE), [], True, wrong), False)
        both = ("and", FALSE, ("not", TRUE))
        self.assertEqual([is_told_by(THREE, both, [], False, (at, ())) for at in [0, 1]], [True, True])
        for wrong in [(2, ()), (-1, ()), (True, ()), (False, ()), (None, ()), ((), ()), [0, ()], (0,), (0, (), ()),
                      (0, 0)]:
            self.assertIs(is_told_by(THREE, both, [], False, wrong), False)
        pair = ("or", FALSE, FALSE)
        for wrong in [[(), ()], ((),), ((), (), ()), ((), []), (None, ()), (0, ()), (1, ()), ()]:
            self.assertIs(is_told_by(THREE, pair, [], False, wrong), False)
        for wrong in [[], None, False, 0, "", (0,), ((),), {}]:
            self.assertIs(is_told_by(THREE, TRUE, [], True, wrong), False)

    def test_any_value(self):
        for value in [*junk(), THREE, TRUE, InvalidStore(2)]:
            for question in [TRUE, ("not", FALSE), ("and", TRUE, TRUE), ("or", TRUE, FALSE), ("some", "x", TRUE),
                             ("all", "x", TRUE)]:
                expected = value == () and question[0] in ("true", "not")
                self.assertIs(is_told_by(THREE, question, [], True, value), expected)

    def test_near_values(self):
        chance = random.Random(87)
        right = judged = 0
        for columns in range(3):
            stores = stores_with(columns, random_stores(88 + columns, 120, 6))
            for at, question in enumerate(questions_for(91 + columns, 50, columns, size=8)):
                store = stores[at % len(stores)]
                judge = Judge(store)
                for binding in bindings_of(store, question)[:3]:
                    flag, paper = told_by(store, question, binding)
                    values = near_papers(paper, chance)
                    for value in chance.sample(values, min(60, len(values))):
                        judged += 1
                        for asked in [flag, not flag]:
                            found = is_told_by(store, question, binding, asked, value)
                            self.assertIs(found, judge.is_paper(question, dict(binding), asked, value))
                            right += found
        self.assertGreater(right, 100)
        self.assertGreater(judged, 5000)

    def test_each_paper_of_small_stores(self):
        questions = [LED, ("all", "y", ("not", NEXT)), ("or", RED, ("some", "y", ("link", "next", "y", "x")))]
        values = [(), [], *[(item, ()) for item in range(3)], *[(0, (item, ())) for item in range(3)]]
        values += [(1, (item, ())) for item in range(2)] + [((), [])] + [((), [(item, ())]) for item in range(2)]
        values += [[(one, ())] for one in range(2)]
        values += [[(one, ()), (other, ())] for one in range(2) for other in range(2)]
        values += [((), [(one, ()), (other, ())]) for one in range(2) for other in range(2)] + [(0, ()), (1, ())]
        for store in small_stores():
            judge = Judge(store)
            for question in questions:
                for binding in bindings_of(store, question):
                    held = {flag: [value for value in values if is_told_by(store, question, binding, flag, value)]
                            for flag in (True, False)}
                    for flag, found in held.items():
                        self.assertEqual(found, [value for value in values if judge.is_paper(
                            question, dict(binding), flag, value)])
                        self.assertEqual(found != [], reading(store, question, dict(binding)) is flag)


class Errors(Checks, unittest.TestCase):
    def test_in_order(self):
        flags = [1, 0, None, "True", (), [True], {}, (True,), InvalidFlag(True), -1]
        for wrong in junk():
            self.fails(InvalidStore, wrong, told_by, wrong, ["no question"], ("no list",))
            self.fails(InvalidStore, wrong, is_told_by, wrong, ["no question"], ("no list",), 1, None)
        for wrong in junk() + NO_QUESTIONS_OF_STORE + [FIVE_DEEP]:
            self.fails(InvalidQuestion, wrong, told_by, STORE, wrong, ("no list",))
            self.fails(InvalidQuestion, wrong, is_told_by, STORE, wrong, ("no list",), 1, None)
        for wrong in [[], [("x", 1)], [("y", 2), ("x", 1)], None, *[[("x", 1), ("y", item)] for item in NO_ITEMS]]:
            self.fails(InvalidList, wrong, told_by, STORE, NEXT, wrong)
            self.fails(InvalidList, wrong, is_told_by, STORE, NEXT, wrong, 1, None)
        for wrong in flags:
            self.fails(InvalidFlag, wrong, is_told_by, STORE, NEXT, [("x", 1), ("y", 2)], wrong, ())
            self.fails(InvalidFlag, wrong, is_told_by, STORE, LED, [("x", 1)], wrong, None)


class Example(unittest.TestCase):
    def test_example(self):
        last = ("not", ("some", "y", ("link", "next", "x", "y")))
        self.assertEqual(
            [is_told_by(THREE, last, [("x", 3)], True, [(2, ()), (3, ()), (1, ())]),
             is_told_by(THREE, last, [("x", 3)], True, [(2, ()), (3, ())]), told_by(THREE, last, [("x", 2)])],
            [True, False, (False, (3, ()))])


if __name__ == "__main__":
    unittest.main()
