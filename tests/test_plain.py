"""Points [15] to [17]: the plain reading."""

import copy
import itertools
import unittest

from samples import Checks, junk, random_questions, reading, small_stores, stores_for_any_use

from depthquestions.errors import InvalidList, InvalidQuestion, InvalidStore
from depthquestions.plain import answers, first_choice, holds, how_many_plain
from depthquestions.questions import free_names, inward, plainer, renamed
from depthquestions.stores import store_of

STORE = ("store", ["red"], ["next"], [1, 2, 3, 4], [
    ("link", "next", 1, 2), ("link", "next", 2, 3), ("mark", "red", 2), ("mark", "red", 4)])
EMPTY = ("store", ["red"], ["next"], [], [])
TRUE, FALSE = ("true",), ("false",)
RED = ("mark", "red", "x")
NEXT = ("link", "next", "x", "y")
NO_QUESTIONS_OF_STORE = [
    ("mark", "blue", "x"), ("mark", "next", "x"), ("link", "red", "x", "x"), ("link", "up", "x", "x"),
    ("and", TRUE, ("not", ("some", "u", ("mark", "blue", "u")))), ("and", RED, ("some", "x", RED)),
    ("some", "x", ("all", "x", RED)), ("mark", "in", "x"), ["true"]]
NO_ITEMS = [0, 5, -1, True, False, None, "1", [1], (1,), {}, 10 ** 29]


class Holds(Checks, unittest.TestCase):
    def held(self, store, question, binding):
        before = copy.deepcopy((store, question, binding))
        result = holds(store, question, binding)
        self.assertEqual(before, (store, question, binding))
        self.assertIs(type(result), bool)
        return result

    def test_each_form(self):
        for question, binding, expected in [
                (TRUE, [], True), (FALSE, [], False), (RED, [("x", 2)], True), (RED, [("x", 1)], False),
                (NEXT, [("x", 1), ("y", 2)], True), (NEXT, [("x", 2), ("y", 1)], False),
                (NEXT, [("x", 4), ("y", 4)], False), (("same", "x", "y"), [("x", 3), ("y", 3)], True),
                (("same", "x", "y"), [("x", 3), ("y", 4)], False), (("same", "x", "x"), [("x", 1)], True),
                (("not", RED), [("x", 2)], False), (("not", RED), [("x", 3)], True),
                (("some", "x", RED), [], True), (("all", "x", RED), [], False),
                (("some", "y", NEXT), [("x", 2)], True), (("some", "y", NEXT), [("x", 3)], False),
                (("all", "x", ("or", RED, ("some", "y", NEXT))), [], False),
                (("all", "x", ("or", RED, ("not", RED))), [], True)]:
            self.assertIs(self.held(STORE, question, binding), expected, question)
            self.assertIs(holds(binding=binding, question=question, store=STORE), expected)
        for one, other in itertools.product([TRUE, FALSE], repeat=2):
            flags = [one == TRUE, other == TRUE]
            self.assertIs(self.held(EMPTY, ("and", one, other), []), all(flags))
            self.assertIs(self.held(EMPTY, ("or", one, other), []), any(flags))

    def test_without_items(self):
        for inner in [TRUE, FALSE, RED]:
            self.assertIs(holds(EMPTY, ("some", "x", inner), []), False)
            self.assertIs(holds(EMPTY, ("all", "x", inner), []), True)
        self.assertIs(holds(EMPTY, ("all", "x", ("some", "y", NEXT)), []), True)
        self.assertIs(holds(EMPTY, ("not", ("some", "y", TRUE)), []), True)

    def test_names_bound_side_by_side(self):
        lonely = ("some", "y", ("and", ("not", ("same", "x", "y")), ("link", "next", "y", "x")))
        question = ("and", ("some", "y", NEXT), ("or", lonely, ("all", "y", ("not", ("same", "x", "y")))))
        self.assertEqual([holds(STORE, question, [("x", item)]) for item in STORE[3]], [False, True, False, False])

    def test_two_columns(self):
        store = store_of(["a"], ["n", "m"], [1, 2], [("link", "n", 1, 2), ("link", "m", 2, 1), ("mark", "a", 1)])
        self.assertIs(holds(store, ("all", "x", ("some", "y", ("or", ("link", "n", "x", "y"), (
            "link", "m", "x", "y")))), []), True)
        self.assertIs(holds(store, ("some", "x", ("some", "y", ("and", ("link", "n", "x", "y"), (
            "link", "m", "x", "y")))), []), False)

    def test_many(self):
        for question in random_questions(40, 300, depth=2) + random_questions(41, 150, depth=3, names=()):
            for store in small_stores()[::4] + [STORE]:
                names = free_names(question)
                for row in itertools.product(store[3], repeat=len(names)):
                    bound = list(zip(names, row))
                    self.assertIs(holds(store, question, bound), reading(store, question, dict(bound)))

    def test_other_forms_of_a_question(self):
        row = ("link", "next", "x", "y")
        for _ in range(29):
            row = ("or", row, NEXT)
        for question in [("not", row), ("some", "u", ("not", row)), ("not", ("all", "u", row))]:
            for other in [inward(question), plainer(question), renamed(question)]:
                for x, y in itertools.product(STORE[3], repeat=2):
                    binding = [("x", x), ("y", y)]
                    self.assertIs(holds(STORE, question, binding), holds(STORE, other, binding))


class Errors(Checks, unittest.TestCase):
    def test_no_stores(self):
        for wrong in junk():
            for call in [holds, answers, how_many_plain, first_choice]:
                self.fails(InvalidStore, wrong, call, wrong, ["no question"], ("no list",))

    def test_no_questions(self):
        for wrong in junk() + NO_QUESTIONS_OF_STORE:
            for call in [holds, answers, how_many_plain, first_choice]:
                self.fails(InvalidQuestion, wrong, call, STORE, wrong, ("no list",))
        for call in [holds, first_choice]:
            self.fails(InvalidQuestion, RED, call, ("store", [], [], [1], []), RED, [("x", 1)])

    def test_no_bindings(self):
        right = [("x", 1), ("y", 2)]
        wrong = [
            [], [("x", 1)], [("y", 2)], right[::-1], right + right, [*right, ("z", 1)], [("x", 1), ("x", 1)],
            [right[0], right[1], right[1]], [("x", 1), ("z", 2)], tuple(right), dict(right), None, "xy", 2, True,
            [["x", 1], ("y", 2)], [("x", 1), ["y", 2]], [("x", 1, 1), ("y", 2)], [("x",), ("y", 2)], [1, 2],
            ["x1", "y2"], [(1, "x"), (2, "y")], [(["x"], 1), ("y", 2)], [None, None], [(), ()]]
        wrong += [[("x", item), ("y", 2)] for item in NO_ITEMS] + [[("x", 1), ("y", item)] for item in NO_ITEMS]
        for call in [holds, first_choice]:
            for binding in wrong:
                self.fails(InvalidList, binding, call, STORE, NEXT, binding)
                self.fails(InvalidList, binding, call, STORE, ("some", "u", NEXT), binding)
            for binding in [[("y", 1)], [("x", 1), ("y", 1)]]:
                self.fails(InvalidList, binding, call, STORE, ("some", "y", NEXT), binding)

    def test_no_lists_of_names(self):
        for call in [answers, how_many_plain]:
            for names in [[], ["x"], ["y"], ["x", "z"], ["x", "y", "x"], ["x", "y", "z", "u"], ("x", "y"), None, "xy",
                          {"x": 1, "y": 2}, True, 2, ["x", "y", "in"], ["x", "y", "Z"], ["x", "y", None],
                          ["x", "y", ["z"]], [["x"], "y"], [("x",), "y"], ["x", "y", 1], ["x", "y", "z" * 31]]:
                self.fails(InvalidList, names, call, STORE, NEXT, names)


class Answers(Checks, unittest.TestCase):
    def both(self, store, question, names):
        """The answers, which are as many as how_many_plain tells."""
        before = copy.deepcopy((store, question, names))
        result = answers(store, question, names)
        self.assertEqual(how_many_plain(store, question, names), len(result))
        self.assertEqual(before, (store, question, names))
        return result

    def test_ordinary(self):
        led = ("some", "y", NEXT)
        self.assertEqual(self.both(STORE, led, ["x"]), [(1,), (2,)])
        self.assertEqual(self.both(STORE, NEXT, ["x", "y"]), [(1, 2), (2, 3)])
        self.assertEqual(self.both(STORE, NEXT, ["y", "x"]), [(2, 1), (3, 2)])
        self.assertEqual(answers(names=["x"], question=RED, store=STORE), [(2,), (4,)])
        self.assertEqual(how_many_plain(names=["x"], question=RED, store=STORE), 2)

    def test_without_names(self):
        self.assertEqual(self.both(STORE, ("some", "x", RED), []), [()])
        self.assertEqual(self.both(STORE, ("all", "x", RED), []), [])
        self.assertEqual(self.both(EMPTY, TRUE, []), [()])

    def test_without_items(self):
        self.assertEqual(self.both(EMPTY, TRUE, ["x"]), [])
        self.assertEqual(self.both(EMPTY, RED, ["x", "y", "z"]), [])

    def test_names_that_bind_nothing(self):
        self.assertEqual(self.both(STORE, RED, ["z", "x"]), [(z, x) for z in [1, 2, 3, 4] for x in [2, 4]])
        self.assertEqual(self.both(STORE, ("some", "x", RED), ["x"]), [(1,), (2,), (3,), (4,)])
        led = ("some", "y", NEXT)
        self.assertEqual(self.both(STORE, led, ["y", "x"]), [(y, x) for y in [1, 2, 3, 4] for x in [1, 2]])
        self.assertEqual(self.both(STORE, led, ["x", "y"]), [(x, y) for x in [1, 2] for y in [1, 2, 3, 4]])
        twice = ("and", led, ("some", "z", ("and", ("mark", "red", "z"), ("link", "next", "x", "z"))))
        self.assertEqual(len(self.both(STORE, twice, ["z", "x", "y"])), 16)
        self.assertEqual(self.both(STORE, FALSE, ["a", "b", "c"]), [])
        self.assertEqual(len(self.both(STORE, TRUE, ["a", "b", "c"])), 64)

    def test_many(self):
        stores = small_stores()[::5] + [STORE] + stores_for_any_use()[1:2]
        for question in random_questions(42, 150, depth=2):
            for names in [["x", "y"], ["y", "x"], ["u", "y", "x"]]:
                for store in stores:
                    expected = [row for row in itertools.product(store[3], repeat=len(names))
                                if reading(store, question, dict(zip(names, row)))]
                    self.assert_same(self.both(store, question, names), expected)


class FirstChoice(Checks, unittest.TestCase):
    def test_ordinary(self):
        self.assertEqual(first_choice(STORE, ("some", "x", RED), []), 2)
        self.assertEqual(first_choice(STORE, ("all", "x", RED), []), 1)
        self.assertEqual(first_choice(STORE, ("all", "x", ("not", RED)), []), 2)
        self.assertEqual(first_choice(binding=[("x", 2)], question=("some", "y", NEXT), store=STORE), 3)
        self.assertIsNone(first_choice(STORE, ("some", "y", NEXT), [("x", 4)]))
        self.assertIsNone(first_choice(STORE, ("all", "x", TRUE), []))

    def test_zero_is_an_item(self):
        store = ("store", ["red"], [], [0, 1], [("mark", "red", 0)])
        self.assertEqual(first_choice(store, ("some", "x", RED), []), 0)
        self.assertEqual(first_choice(store, ("all", "x", ("not", RED)), []), 0)

    def test_others(self):
        for question in [TRUE, FALSE, ("not", ("some", "x", RED)), ("and", ("some", "x", RED), TRUE)]:
            self.assertIsNone(first_choice(STORE, question, []))
        for question in [("some", "x", TRUE), ("all", "x", FALSE)]:
            self.assertIsNone(first_choice(EMPTY, question, []))

    def test_many(self):
        for question in random_questions(43, 400, depth=3):
            for store in small_stores()[::6] + [STORE]:
                names = free_names(question)
                for row in list(itertools.product(store[3], repeat=len(names)))[:3]:
                    bound = dict(zip(names, row))
                    expected = None
                    if question[0] in ("some", "all"):
                        sought = question[0] == "some"
                        expected = next((item for item in store[3] if reading(
                            store, question[2], {**bound, question[1]: item}) == sought), None)
                    self.assert_same(first_choice(store, question, list(zip(names, row))), expected)


class Bounds(Checks, unittest.TestCase):
    """The number of items, to the power of the depth and of the names together, is near to 50,000 here."""

    def ring(self, many):
        return store_of(["red"], ["next"], list(range(many)), [
            ("link", "next", item, (item + 1) % many) for item in range(many)])

    def never(self, names, many):
        """A question with so many tuples of which each part must be looked at, and which never holds."""
        row = ("mark", "red", names[0])
        for at in range(many // 2):
            row = ("or", row, ("mark", "red", names[at % len(names)]))
        return row

    def test_depth(self):
        for many, depth in [(2000, 1), (220, 2), (36, 3), (14, 4), (6, 6), (2, 15), (1, 29)]:
            names = [f"n{at}" for at in range(depth)]
            question = self.never(names, 58 - depth)
            for name in names[::-1]:
                question = ("some", name, question)
            store = self.ring(many)
            self.assertIs(self.in_time(holds, store, question, []), False)
            self.assertIsNone(self.in_time(first_choice, store, question, []))
            self.assertEqual(self.in_time(answers, store, question, []), [])
            self.assertIs(self.in_time(holds, store, inward(("not", question)), []), True)

    def test_names(self):
        for many, names in [(2000, ["x"]), (220, ["x", "y"]), (36, ["x", "y", "z"])]:
            question = ("not", self.never(names, 58))
            self.assertEqual(self.in_time(how_many_plain, self.ring(many), question, names), many ** len(names))
        question = ("some", "u", ("and", self.never(["u", "x"], 50), ("same", "u", "y")))
        self.assertEqual(self.in_time(answers, self.ring(36), question, ["x", "y"]), [])
        self.assertEqual(self.in_time(how_many_plain, self.ring(14), ("not", question), ["x", "y", "z"]), 14 ** 3)

    def test_as_many_items_as_there_may_be(self):
        store = self.ring(2000)
        self.assertEqual(len(self.in_time(answers, store, ("same", "x", "x"), ["x"])), 2000)
        self.assertIs(self.in_time(holds, store, ("some", "y", NEXT), [("x", 1999)]), True)


class Example(unittest.TestCase):
    def test_example(self):
        led = ("some", "y", ("link", "next", "x", "y"))
        self.assertEqual(
            [holds(STORE, led, [("x", 2)]), holds(STORE, led, [("x", 3)]), answers(STORE, led, ["x"]),
             how_many_plain(STORE, led, ["z", "x"])],
            [True, False, [(1,), (2,)], 8])
        alone = ("all", "y", ("not", ("or", ("link", "next", "x", "y"), ("link", "next", "y", "x"))))
        self.assertEqual(
            [answers(STORE, ("and", alone, ("mark", "red", "x")), ["x"]), first_choice(STORE, alone, [("x", 2)]),
             first_choice(STORE, ("some", "x", alone), []), first_choice(STORE, ("not", led), [("x", 4)])],
            [[(4,)], 1, 4, None])


if __name__ == "__main__":
    unittest.main()
