"""Points [9] to [12]: questions."""

import copy
import itertools
import random
import unittest

from samples import RESERVED, Checks, junk, random_question, random_questions, reading, small_stores

from depthquestions.errors import InvalidQuestion
from depthquestions.questions import (
    are_alike, depth, first_wrong, free_names, inward, is_question, plainer, renamed, signs)

LENGTHS = {"true": 1, "false": 1, "mark": 3, "link": 4, "same": 3, "not": 2, "and": 3, "or": 3, "some": 3, "all": 3}
TRUE, FALSE = ("true",), ("false",)
RED = ("mark", "red", "x")


def is_plain_word(value):
    """Whether a value is a word, told anew."""
    return (isinstance(value, str) and 1 <= len(value) <= 30 and value not in RESERVED and value[0].islower()
            and all(sign in "abcdefghijklmnopqrstuvwxyz0123456789" for sign in value))


def parts_of(one):
    return {"not": one[1:], "and": one[1:], "or": one[1:], "some": one[2:], "all": one[2:]}.get(one[0], ())


def wrong_within(value, place, around):
    """The first of the three reasons that are told on the way."""
    if not isinstance(value, tuple) or not value or not isinstance(value[0], str) or (
            LENGTHS.get(value[0]) != len(value)):
        return place, "form"
    words = value[1:] if value[0] in ("mark", "link", "same") else value[1:2] if value[0] in ("some", "all") else ()
    if not all(is_plain_word(word) for word in words):
        return place, "word"
    if value[0] in ("some", "all"):
        if value[1] in around:
            return place, "bound"
        around = around + [value[1]]
    for at, part in enumerate(parts_of(value)):
        found = wrong_within(part, (*place, at), around)
        if found:
            return found
    return None


def free_in(one):
    if one[0] == "mark":
        return {one[2]}
    if one[0] == "link":
        return {one[2], one[3]}
    if one[0] == "same":
        return {one[1], one[2]}
    found = set().union(*[free_in(part) for part in parts_of(one)])
    return found - {one[1]} if one[0] in ("some", "all") else found


def binder_of(one, place, names):
    """The place of the first quantifier with one of these names."""
    if one[0] in ("some", "all") and one[1] in names:
        return place, "free"
    for at, part in enumerate(parts_of(one)):
        found = binder_of(part, (*place, at), names)
        if found:
            return found
    return None


def expected_wrong(value):
    return wrong_within(value, (), []) or binder_of(value, (), free_in(value))


def spoilt(chance, value):
    """A value in which something is exchanged somewhere."""
    if isinstance(value, tuple) and value and chance.random() < 0.8:
        at = chance.randrange(len(value))
        return (*value[:at], spoilt(chance, value[at]), *value[at + 1:])
    if isinstance(value, tuple) and chance.random() < 0.5:
        return chance.choice([value + value[:1], value[1:], list(value)])
    return chance.choice(["x", "u", "in", "Red", "mark", "some", None, True, 3, [], ("true",), RED, ("some", "u", RED),
                          ("mark", "red", "u"), ("mark", "red", "v"), ("same", "w", "uu")])


def all_within(one):
    return [one] + [each for part in parts_of(one) for each in all_within(part)]


def nested(words, inner):
    for word, name in words[::-1]:
        inner = (word, name, inner)
    return inner


class Questions(Checks, unittest.TestCase):
    def wrong(self, value, expected):
        before = copy.deepcopy(value)
        self.assert_same(first_wrong(value), expected)
        self.assertIs(is_question(value), expected is None)
        self.assert_like(before, value)

    def test_right_ones(self):
        for value in [TRUE, FALSE, RED, ("link", "next", "x", "x"), ("same", "x", "y"), ("not", TRUE),
                      ("and", RED, RED), ("or", RED, FALSE), ("some", "x", RED), ("all", "x", TRUE),
                      ("mark", "red", "red"), ("link", "x", "x", "x")]:
            self.wrong(value, None)
        self.assertIs(is_question(value=RED), True)
        self.assertIsNone(first_wrong(value=RED))

    def test_any_value(self):
        for value in junk():
            expected = ((0,), "form") if value and isinstance(value, tuple) and value[0] == "not" else ((), "form")
            self.wrong(value, expected)
            self.wrong(("not", value), ((0,), "form") if expected == ((), "form") else ((0, 0), "form"))

    def test_lengths(self):
        for word, length in LENGTHS.items():
            full = (word, "x", "y", "z", "u")
            for many in range(1, 6):
                if many != length:
                    self.wrong(full[:many], ((), "form"))
            self.wrong([word, TRUE, TRUE, TRUE][:length], ((), "form"))

    def test_words(self):
        for word in [*RESERVED, "", "Red", "9x", "a" * 31, "a_b", None, 1, True, ["x"], ("x",), {}]:
            for value in [("mark", word, "x"), ("mark", "red", word), ("link", word, "x", "y"),
                          ("link", "next", word, "y"), ("link", "next", "x", word), ("same", word, "x"),
                          ("same", "x", word), ("some", word, TRUE), ("all", word, TRUE)]:
                self.wrong(value, ((), "word"))
                self.wrong(("and", TRUE, ("not", value)), ((1, 0), "word"))
            self.wrong(("some", word, 5), ((), "word"))

    def test_bound(self):
        for one, other in itertools.product(["some", "all"], repeat=2):
            self.wrong((one, "x", (other, "x", TRUE)), ((0,), "bound"))
            self.wrong((one, "x", ("and", TRUE, ("not", (other, "x", 5)))), ((0, 1, 0), "bound"))
            self.wrong((one, "x", (other, "y", ("all", "x", TRUE))), ((0, 0), "bound"))
            self.wrong(("and", (one, "x", RED), (other, "x", RED)), None)

    def test_free(self):
        inner = ("some", "x", RED)
        self.wrong(("and", RED, inner), ((1,), "free"))
        self.wrong(("and", inner, RED), ((0,), "free"))
        self.wrong(("or", ("not", inner), ("and", inner, RED)), ((0, 0), "free"))
        self.wrong(("and", ("some", "x", TRUE), ("same", "y", "x")), ((0,), "free"))
        self.wrong(("and", ("all", "y", ("link", "next", "y", "x")), inner), ((1,), "free"))
        self.wrong(("some", "y", ("and", ("some", "x", TRUE), ("link", "next", "y", "x"))), ((0, 0), "free"))

    def test_marks_and_columns_are_no_names(self):
        self.wrong(("some", "red", RED), None)
        self.wrong(("some", "next", ("link", "next", "x", "y")), None)

    def test_order(self):
        free = ("and", RED, ("some", "x", TRUE))
        bound = ("some", "y", ("some", "y", TRUE))
        word = ("mark", "in", "y")
        form = ("same", "y")
        self.wrong(("and", free, bound), ((1, 0), "bound"))
        self.wrong(("and", free, word), ((1,), "word"))
        self.wrong(("and", bound, form), ((0, 0), "bound"))
        self.wrong(("and", word, form), ((0,), "word"))
        self.wrong(("and", form, word), ((0,), "form"))
        self.wrong(("and", ("not", form), word), ((0, 0), "form"))
        self.wrong(("some", "in", form), ((), "word"))
        self.wrong(("some", "y", ("some", "y", form)), ((0,), "bound"))

    def test_spoilt_questions(self):
        chance = random.Random(3)
        reasons = set()
        for question in random_questions(4, 1500, depth=3):
            self.wrong(question, expected_wrong(question))
            name = chance.choice(["u", "v", "x", "y"])
            value = chance.choice([question, ("all", name, question), ("or", ("some", name, TRUE), question)])
            reasons.add((expected_wrong(value) or [None])[-1])
            self.wrong(value, expected_wrong(value))
            for _ in range(chance.choice([1, 1, 2])):
                value = spoilt(chance, value)
            expected = expected_wrong(value)
            reasons.add(expected and expected[1])
            self.wrong(value, expected)
        self.assertEqual(reasons, {None, "form", "word", "bound", "free"})


class Told(Checks, unittest.TestCase):
    def test_free_names(self):
        self.assertEqual(free_names(TRUE), [])
        self.assertEqual(free_names(("and", ("same", "y", "x"), ("mark", "a", "y"))), ["x", "y"])
        self.assertEqual(free_names(("some", "x", ("link", "z", "x", "b"))), ["b"])
        self.assertEqual(free_names(("and", ("same", "b", "b10"), ("same", "b9", "a"))), ["a", "b", "b10", "b9"])
        for question in random_questions(5, 300, depth=3):
            self.assert_same(free_names(question), sorted(free_in(question)))
            self.assert_new_lists([free_names(question), free_names(question)])

    def test_depth(self):
        self.assertEqual(depth(RED), 0)
        self.assertEqual(depth(("some", "u", TRUE)), 1)
        self.assertEqual(depth(("and", ("not", ("all", "u", ("some", "v", TRUE))), ("some", "u", TRUE))), 2)
        self.assertEqual(depth(("and", ("some", "u", TRUE), ("some", "v", TRUE))), 1)
        self.assertIs(type(depth(RED)), int)
        self.assertEqual(depth(nested([("all", f"n{at}") for at in range(59)], TRUE)), 59)

    def test_signs(self):
        self.assert_same(signs(TRUE), ([], []))
        question = ("and", ("or", ("mark", "red", "x"), ("mark", "blue", "y")), ("and", ("link", "up", "x", "y"), (
            "not", ("some", "z", ("or", ("link", "down", "z", "z"), ("mark", "red", "z"))))))
        self.assert_same(signs(question), (["blue", "red"], ["down", "up"]))
        self.assert_same(signs(("and", ("mark", "a", "x"), ("link", "a", "x", "x"))), (["a"], ["a"]))
        self.assert_new_lists(signs(TRUE))

    def test_errors(self):
        for wrong in junk() + [("and", RED, ("some", "x", TRUE)), ("some", "x", ("all", "x", TRUE))]:
            for call in [free_names, depth, signs, renamed, inward, plainer]:
                self.fails(InvalidQuestion, wrong, call, wrong)
                self.fails(InvalidQuestion, wrong, call, question=wrong)
            self.fails(InvalidQuestion, wrong, are_alike, wrong, ["other"])
            self.fails(InvalidQuestion, wrong, are_alike, TRUE, wrong)
            self.fails(InvalidQuestion, wrong, are_alike, other=None, one=wrong)


class Renamed(Checks, unittest.TestCase):
    def test_by_place(self):
        question = ("and", ("some", "q", ("all", "r", ("link", "next", "q", "r"))), ("all", "r", ("same", "r", "z")))
        self.assertEqual(renamed(question), (
            "and", ("some", "a", ("all", "b", ("link", "next", "a", "b"))), ("all", "a", ("same", "a", "z"))))

    def test_free_names_are_skipped(self):
        question = ("some", "q", ("some", "r", ("and", ("link", "next", "a", "q"), ("link", "next", "c", "r"))))
        self.assertEqual(renamed(question), (
            "some", "b", ("some", "d", ("and", ("link", "next", "a", "b"), ("link", "next", "c", "d")))))

    def test_marks_and_columns_stay(self):
        question = ("some", "red", ("and", ("mark", "red", "red"), ("link", "red", "red", "red")))
        self.assertEqual(renamed(question), ("some", "a", ("and", ("mark", "red", "a"), ("link", "red", "a", "a"))))

    def test_many(self):
        words = [("some", f"q{at}") for at in range(58)]
        expected = "abcdefghijklmnopqrstuvwxyz"
        expected = [*expected, *["a" + sign for sign in expected], *["b" + sign for sign in expected]]
        self.assertEqual(renamed(nested(words, TRUE)), nested([("some", word) for word in expected[:58]], TRUE))
        free = ("same", "aa", "d")
        names = [word for word in expected if word not in ("aa", "d")]
        self.assertEqual(renamed(nested(words, free)), nested([("some", word) for word in names[:58]], free))

    def test_reserved_words_are_skipped(self):
        # Beyond the limit of 60 tuples, which is the caller's: "in" would be the word with the number 247.
        words = [("some", f"q{at}") for at in range(249)]
        result, names = renamed(nested(words, TRUE)), []
        while result != TRUE:
            names.append(result[1])
            result = result[2]
        self.assertEqual(names[245:], ["il", "im", "io", "ip"])

    def test_again_and_alike(self):
        questions = random_questions(6, 200, depth=3)
        for question in questions:
            before = copy.deepcopy(question)
            result = renamed(question)
            self.assertTrue(is_question(result))
            self.assertEqual(renamed(result), result)
            self.assertTrue(are_alike(question, result))
            self.assertEqual(free_names(result), free_names(question))
            self.assertEqual([one[0] for one in all_within(result)], [one[0] for one in all_within(question)])
            self.assertEqual(before, question)

    def test_are_alike(self):
        one = ("some", "u", ("all", "v", ("link", "next", "u", "v")))
        self.assertIs(are_alike(one, ("some", "v", ("all", "u", ("link", "next", "v", "u")))), True)
        self.assertIs(are_alike(one=one, other=("some", "p", ("all", "q", ("link", "next", "p", "q")))), True)
        for other in [("some", "u", ("all", "v", ("link", "next", "v", "u"))), ("all", "u", one[2]),
                      ("some", "u", ("all", "v", ("link", "up", "u", "v"))), ("not", one), one[2][2]]:
            if is_question(other):
                self.assertIs(are_alike(one, other), False)
        self.assertIs(are_alike(("mark", "red", "x"), ("mark", "red", "y")), False)
        self.assertIs(are_alike(("some", "x", ("same", "x", "y")), ("some", "y", ("same", "y", "x"))), False)

    def test_same_reading(self):
        for question in random_questions(8, 60, depth=2, size=8):
            same_in_small_stores(self, question, renamed(question))


def same_in_small_stores(test, one, other):
    """Two questions hold in the same small stores with the same items."""
    for store in small_stores():
        for x, y in itertools.product(store[3], repeat=2):
            bound = {"x": x, "y": y}
            test.assertEqual(reading(store, one, bound), reading(store, other, bound), (store, one, other))
    empty = ("store", ["red"], ["next"], [], [])
    if not free_names(one) and not free_names(other):
        test.assertEqual(reading(empty, one, {}), reading(empty, other, {}))


class Inward(Checks, unittest.TestCase):
    def test_each_form(self):
        other = ("not", ("mark", "red", "y"))
        for one, expected in [
                (("true",), ("false",)), (("false",), ("true",)), (RED, ("not", RED)), (("not", RED), RED),
                (("same", "x", "y"), ("not", ("same", "x", "y"))),
                (("link", "next", "x", "y"), ("not", ("link", "next", "x", "y"))),
                (("and", RED, other), ("or", ("not", RED), other[1])),
                (("or", RED, other), ("and", ("not", RED), other[1])),
                (("some", "u", RED), ("all", "u", ("not", RED))), (("all", "u", other), ("some", "u", other[1]))]:
            self.assertEqual(inward(("not", one)), expected)
            self.assertEqual(inward(("not", ("not", one))), inward(one))
            self.assertEqual(inward(("not", ("not", ("not", one)))), expected)

    def test_what_stays(self):
        for one in [TRUE, ("not", RED), ("and", ("not", RED), FALSE), ("some", "u", ("or", RED, ("all", "v", TRUE)))]:
            self.assertEqual(inward(one), one)
        self.assertEqual(inward(question=("not", TRUE)), FALSE)

    def test_many(self):
        for question in random_questions(9, 150, depth=2, size=10) + random_questions(10, 100, names=(), size=9):
            before = copy.deepcopy(question)
            result = inward(question)
            self.assertEqual(before, question)
            self.assertTrue(is_question(result))
            self.assertEqual(inward(result), result)
            self.assertEqual(free_names(result), free_names(question))
            for one in all_within(result):
                self.assertTrue(one[0] != "not" or one[1][0] in ("mark", "link", "same"))
            same_in_small_stores(self, question, result)

    def test_great_ones(self):
        row = RED
        for _ in range(29):
            row = ("and", row, RED)
        result = inward(("not", row))
        self.assertEqual(len(all_within(result)), 89)
        self.assertEqual(inward(("not", result)), row)
        self.assertEqual(depth(result), 0)


class Plainer(Checks, unittest.TestCase):
    def test_each_form(self):
        for question, expected in [
                (("same", "x", "x"), TRUE), (("same", "x", "y"), ("same", "x", "y")),
                (("link", "next", "x", "x"), ("link", "next", "x", "x")),
                (("not", ("not", RED)), RED), (("not", ("not", ("not", RED))), ("not", RED)),
                (("not", TRUE), FALSE), (("not", FALSE), TRUE), (("not", RED), ("not", RED)),
                (("and", TRUE, RED), RED), (("and", RED, TRUE), RED), (("and", FALSE, RED), FALSE),
                (("and", RED, FALSE), FALSE), (("or", TRUE, RED), TRUE), (("or", RED, TRUE), TRUE),
                (("or", FALSE, RED), RED), (("or", RED, FALSE), RED), (("and", TRUE, FALSE), FALSE),
                (("or", FALSE, TRUE), TRUE), (("and", TRUE, TRUE), TRUE), (("or", FALSE, FALSE), FALSE),
                (("and", RED, RED), ("and", RED, RED)), (("or", RED, ("not", RED)), ("or", RED, ("not", RED))),
                (("some", "u", FALSE), FALSE), (("some", "u", TRUE), ("some", "u", TRUE)),
                (("all", "u", TRUE), TRUE), (("all", "u", FALSE), ("all", "u", FALSE)),
                (("some", "u", RED), ("some", "u", RED)), (TRUE, TRUE), (FALSE, FALSE)]:
            self.assertEqual(plainer(question), expected, question)

    def test_from_within(self):
        idle = ("and", ("same", "u", "u"), ("not", FALSE))
        self.assertEqual(plainer(("all", "u", idle)), TRUE)
        self.assertEqual(plainer(("some", "u", ("not", idle))), FALSE)
        self.assertEqual(plainer(("not", ("and", ("not", RED), TRUE))), RED)
        self.assertEqual(plainer(question=("or", ("some", "u", idle), FALSE)), ("some", "u", TRUE))
        self.assertEqual(plainer(("not", ("all", "u", FALSE))), ("not", ("all", "u", FALSE)))

    def test_a_free_name_may_be_lost(self):
        self.assertEqual(free_names(plainer(("and", RED, ("same", "y", "y")))), ["x"])

    def test_many(self):
        chance = random.Random(12)
        questions = random_questions(11, 150, size=10) + random_questions(13, 100, names=(), size=9)
        for _ in range(100):
            part = random_question(chance, 1, ("x", "y"), size=4)
            questions.append(("or", ("and", ("same", "x", "x"), part), ("not", ("not", ("some", "n", FALSE)))))
        for question in questions:
            before = copy.deepcopy(question)
            result = plainer(question)
            self.assertEqual(before, question)
            self.assertTrue(is_question(result))
            self.assertEqual(plainer(result), result)
            self.assertLessEqual(set(free_names(result)), set(free_names(question)))
            for one in all_within(result):
                self.assertFalse(one[0] == "same" and one[1] == one[2])
                self.assertFalse(one[0] == "not" and one[1][0] in ("not", "true", "false"))
                self.assertFalse(one[0] in ("and", "or") and (TRUE in one or FALSE in one))
            same_in_small_stores(self, question, result)


class Bounds(Checks, unittest.TestCase):
    def test_sixty_tuples(self):
        inner = ("not", ("and", ("same", "n0", "n55"), ("mark", "red", "n9")))
        deep = nested([("some", f"n{at}") for at in range(56)], inner)
        row = RED
        for at in range(29):
            row = ("or", ("link", "next", "x", f"n{at}"), row)
        for question in [deep, row, ("not", row)]:
            for call in [is_question, free_names, depth, signs, renamed, inward, plainer]:
                self.in_time(call, question)
            self.assertTrue(self.in_time(are_alike, question, renamed(question)))
        self.assertEqual(depth(renamed(deep)), 56)

    def test_somewhat_beyond(self):
        deep = RED
        for _ in range(200):
            deep = ("not", deep)
        self.assertTrue(is_question(deep))
        self.assertEqual([plainer(deep), inward(deep), depth(deep)], [RED, RED, 0])
        self.assertEqual(renamed(deep), deep)
        wrong = ("not", 5)
        for _ in range(200):
            wrong = ("not", wrong)
        self.assertEqual(first_wrong(wrong), ((0,) * 201, "form"))


class Example(unittest.TestCase):
    def test_example(self):
        asked = ("all", "x", ("or", ("not", ("some", "y", ("link", "next", "x", "y"))), ("mark", "red", "z")))
        self.assertEqual([depth(asked), signs(asked), free_names(asked)], [2, (["red"], ["next"]), ["z"]])
        pair = ("and", ("mark", "red", "y"), ("mark", "blue", "x"))
        self.assertEqual([free_names(pair), signs(pair)], [["x", "y"], (["blue", "red"], [])])
        self.assertEqual(
            [first_wrong(("not", ("mark", "red", "in"))), first_wrong(("some", "x", ("all", "x", ("true",)))),
             first_wrong(("and", ("same", "x", "x"), ("some", "x", ("true",)))),
             first_wrong(("or", ("true",), ("maybe",)))],
            [((0,), "word"), ((0,), "bound"), ((1,), "free"), ((1,), "form")])
        self.assertEqual([renamed(asked), inward(("not", asked))], [
            ("all", "a", ("or", ("not", ("some", "b", ("link", "next", "a", "b"))), ("mark", "red", "z"))),
            ("some", "x", ("and", ("some", "y", ("link", "next", "x", "y")), ("not", ("mark", "red", "z"))))])
        self.assertEqual(
            [plainer(("and", ("same", "x", "x"), ("not", ("not", ("mark", "red", "x"))))),
             are_alike(("some", "x", ("mark", "red", "x")), ("some", "y", ("mark", "red", "y")))],
            [("mark", "red", "x"), True])


if __name__ == "__main__":
    unittest.main()
