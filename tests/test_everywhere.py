"""Points [52] to [54]: all stores of one column."""

import copy
import random
import unittest

from line_samples import (
    LED, MET, NO_CLOSED, NO_LINE_COLUMNS, NO_LINE_MARKS, PAIRED, TRUE, TWO, all_letters, all_lists, at_least,
    closed_questions, conjunction, is_told_line, prefixed, told_store)
from samples import Checks, junk, reading
from test_machines import FIVE_AND_TWO, SIX_AND_ONE, SIX_OR_FOUR, from_end, link, path_of

from depthquestions.errors import InvalidList, InvalidNumber, InvalidQuestion, TooMany
from depthquestions.everywhere import holds_where, how_many_lines, least_store, parting_store, sizes
from depthquestions.lines import line_of
from depthquestions.stores import is_store
from depthquestions.texts import read_question

FALSE = ("false",)
NO_LENGTHS = [-1, 201, True, False, None, "1", (1,), [1], {}, 10 ** 29, -10 ** 29]


def ring_of(many):
    """That all items lie in rings of so many."""
    names = "abcd"[:many]
    rows = [link(one, other) for one, other in zip(names, names[1:] + names[:1])]
    rows += [("not", ("same", names[0], other)) for other in names[1:]]
    inner = prefixed(["some"] * (many - 1), names[1:], conjunction(rows))
    return ("all", "a", inner)


def known(marks, most):
    """All lines up to a length, in order of their lengths, with their stores."""
    return [[(line, told_store(marks, ["next"], line)) for line in all_lists(marks, many) if is_told_line(line)]
            for many in range(most + 1)]


class LeastStore(Checks, unittest.TestCase):
    def test_many(self):
        for marks, most, many in [([], 6, 200), (["red"], 3, 200), (["b", "a"], 2, 100)]:
            lines = known(marks, most)
            for question in closed_questions(340 + len(marks), many, marks):
                before = copy.deepcopy((marks, question))
                found = least_store(marks, ["next"], question)
                self.assert_same(before, (marks, question))
                first = next((store for row in lines for line, store in row if reading(store, question, {})), None)
                if first is not None:
                    self.assert_same(found, first)
                    self.assert_new_lists(found, marks)
                elif found is not None:
                    self.assertGreater(len(found[3]), most)
                    self.assertTrue(is_store(found))
                    self.assertIs(reading(found, question, {}), True)
                flags = [reading(store, question, {}) for row in lines for _, store in row]
                where = holds_where(marks, ["next"], question)
                self.assertIn(where, {(True, True): ["some"], (True, False): ["all", "some"],
                                      (False, True): ["none", "some"]}[any(flags), not all(flags)])
                contrary = holds_where(marks, ["next"], ("not", question))
                self.assertEqual({"all": "none", "some": "some", "none": "all"}[where], contrary)
                self.assertEqual(found is None, where == "none")
                self.assertEqual(least_store(marks, ["next"], ("not", question)) is None, where == "all")

    def test_each_answer(self):
        for question, where in [
                (TRUE, "all"), (FALSE, "none"), (TWO, "some"), (LED, "some"), (("and", LED, ("not", MET)), "none"),
                (("or", LED, ("not", MET)), "all"), (("some", "u", FALSE), "none"), (("all", "u", TRUE), "all"),
                (read_question("all x: all y: all z: (not (next(x, y) and next(x, z)) or y = z)"), "all"),
                (read_question("some x: some y: some z: (next(x, z) and next(y, z) and not x = y)"), "none")]:
            self.assertEqual(holds_where(question=question, columns=["next"], marks=[]), where)
            self.assertEqual(holds_where(["a", "b"], ["next"], question), where)
        self.assertIsNone(least_store([], ["next"], FALSE))
        self.assert_same(least_store(question=TRUE, columns=["up"], marks=["a"]), ("store", ["a"], ["up"], [], []))

    def test_the_first_in_order(self):
        for question, line in [
                (TWO, [(1, (0,)), (0, (0,))]), (("and", TWO, ring_of(2)), [(2, (0,)), (0, (0,))]),
                (path_of(4), [(2, (0,))]), (ring_of(3), []), (("and", TWO, ring_of(3)), [(2, (0,)), (0, (0,)), (0, (0,))]),
                (("some", "u", ("mark", "red", "u")), [(1, (1,))]),
                (at_least(3, ["red"]), [(1, (1,)), (0, (1,)), (0, (1,))]),
                (read_question("some u: some v: (red(u) and next(v, u) and not red(v))"), [(1, (0,)), (0, (1,))]),
                (read_question("some u: some v: (red(u) and not next(v, u) and not red(v))"), [(1, (0,)), (1, (1,))])]:
            expected = told_store(["red"], ["next"], line)
            if reading(expected, question, {}):
                found = least_store(["red"], ["next"], question)
                self.assertEqual(len(found[3]), len(line))
                self.assertLessEqual(line_of(found), line)
        self.assertEqual(line_of(least_store(["red"], ["next"], read_question(
            "some u: some v: (red(u) and next(v, u) and not red(v))"))), [(1, (0,)), (0, (1,))])
        self.assertEqual(line_of(least_store(["red"], ["next"], ("and", TWO, ring_of(3)))), [
            (2, (0,)), (0, (0,)), (0, (0,))])

    def test_long_ones(self):
        found = self.in_time(least_store, ["red", "blue"], ["next"], FIVE_AND_TWO)
        self.assertIs(reading(found, FIVE_AND_TWO, {}), True)
        self.assertEqual(len(found[3]), 6)
        self.assert_same(found, told_store(["red", "blue"], ["next"], [
            (1, (1, 0)), (0, (0, 0)), (0, (0, 0)), (0, (0, 1)), (0, (0, 0)), (0, (0, 0))]))


class PartingStore(Checks, unittest.TestCase):
    def test_many(self):
        for marks, most, many in [([], 6, 150), (["red"], 3, 150), (["b", "a"], 2, 80)]:
            lines = known(marks, most)
            found = []
            questions = closed_questions(350 + len(marks), 2 * many, marks, depth=3)
            for one, other in zip(questions, questions[many:]):
                before = copy.deepcopy((marks, one, other))
                found.append(parting_store(marks, ["next"], one, other))
                self.assert_same(before, (marks, one, other))
                first = next((store for row in lines for line, store in row
                              if reading(store, one, {}) != reading(store, other, {})), None)
                if first is not None:
                    self.assert_same(found[-1], first)
                elif found[-1] is not None:
                    self.assertGreater(len(found[-1][3]), most)
                    self.assertNotEqual(reading(found[-1], one, {}), reading(found[-1], other, {}))
            self.assertGreater(found.count(None), 5)
            self.assertGreater(len([store for store in found if store and store[3]]), 5)

    def test_ordinary(self):
        self.assertIsNone(parting_store(other=MET, one=LED, columns=["next"], marks=["red"]))
        self.assertIsNone(parting_store([], ["next"], ("not", ("not", PAIRED)), PAIRED))
        self.assert_same(parting_store([], ["next"], PAIRED, LED), told_store([], ["next"], [(2, ())]))
        self.assert_same(parting_store([], ["next"], at_least(3, []), TWO), told_store([], ["next"], [(1, ()), (0, ())]))

    def test_too_many_in_order(self):
        marks = ["red", "blue"]
        for one, other, number in [(SIX_AND_ONE, SIX_OR_FOUR, 650), (SIX_OR_FOUR, SIX_AND_ONE, 3001),
                                   (TRUE, SIX_AND_ONE, 650), (SIX_AND_ONE, TRUE, 650), (SIX_AND_ONE, SIX_AND_ONE, 650)]:
            self.fails_with(TooMany, number, parting_store, marks, ["next"], one, other)
        self.fails_with(TooMany, 3001, parting_store, marks, ["next"], from_end("red", 4, 2), from_end("blue", 4, 0))
        self.assertIsNone(self.in_time(parting_store, marks, ["next"], FIVE_AND_TWO, ("not", ("not", FIVE_AND_TWO))))


class Sizes(Checks, unittest.TestCase):
    def test_each_form(self):
        five = read_question("all u: some v: (next(u, v) and some w: (next(v, w) and next(w, u) and not u = v))")
        even = ("and", PAIRED, TWO)
        for question, expected in [
                (TRUE, ([], [1])), (FALSE, ([], [0])), (TWO, ([0, 0], [1])), (("not", TWO), ([1, 1], [0])),
                (at_least(4, []), ([0, 0, 0, 0], [1])), (PAIRED, ([], [1, 0])), (even, ([0], [0, 1])),
                (("not", even), ([], [1])), (ring_of(3), ([], [1, 0, 0])), (five, ([], [1, 0, 0])),
                (("or", PAIRED, ring_of(3)), ([], [1, 0, 1, 1, 1, 0])), (ring_of(1), ([], [1])),
                (("and", PAIRED, ring_of(3)), ([1], [0])), (("or", ("not", TWO), PAIRED), ([1, 1], [1, 0])),
                (("and", TWO, ("not", at_least(4, []))), ([0, 0, 1, 1], [0])), (("some", "u", TRUE), ([0], [1])),
                (("and", ("some", "u", TRUE), PAIRED), ([0], [0, 1])), (LED, ([], [1])), (ring_of(4), ([], [1, 0, 0, 0])),
                (("or", at_least(4, []), PAIRED), ([1, 0, 1, 0], [1]))]:
            self.assert_same(sizes([], ["next"], question), expected)
            self.assert_same(sizes(question=question, columns=["next"], marks=["red"]), expected)

    def test_many(self):
        for marks, most, many in [([], 6, 200), (["red"], 3, 150), (["b", "a"], 2, 80)]:
            lines = known(marks, most)
            for question in closed_questions(360 + len(marks), many, marks):
                before = copy.deepcopy((marks, question))
                found = sizes(marks, ["next"], question)
                self.assert_same(before, (marks, question))
                self.assert_new_lists(found, marks)
                ahead, around = found
                self.assertGreater(len(around), 0)
                told = (ahead + around * (most + 1))[:most + 1]
                self.assertEqual(told, [int(any(reading(store, question, {}) for _, store in row)) for row in lines])
                self.assertFalse(ahead and ahead[-1] == around[-1])
                for size in range(1, len(around)):
                    self.assertNotEqual(around[size:] + around[:size], around)
                for length, row in enumerate(lines):
                    held = sum(reading(store, question, {}) for _, store in row)
                    self.assert_same(how_many_lines(marks, ["next"], question, length), held)

    def test_rings_of_many_sizes(self):
        question = ("or", ("or", ("or", ring_of(2), ring_of(3)), ring_of(4)), ("not", ("some", "u", TRUE)))
        ahead, around = self.in_time(sizes, [], ["next"], question)
        self.assertEqual((ahead, around), ([], [int(at % 2 == 0 or at % 3 == 0) for at in range(6)]))


class HowManyLines(Checks, unittest.TestCase):
    def test_both_together(self):
        chance = random.Random(370)
        for marks in [[], ["red"], ["red", "blue"]]:
            many = 3 * 2 ** len(marks)
            for question in closed_questions(371 + len(marks), 60, marks):
                for length in [0, 1, 2, chance.randint(3, 200), 200]:
                    held, failed = [how_many_lines(marks, ["next"], asked, length)
                                    for asked in (question, ("not", question))]
                    self.assertEqual(held + failed, many ** (length - 1) * (many - many // 3) if length else 1)

    def test_ordinary(self):
        self.assertEqual([how_many_lines([], ["next"], PAIRED, length) for length in range(9)], [1, 0, 1, 0, 1, 0, 1, 0, 1])
        self.assertEqual([how_many_lines([], ["next"], LED, length) for length in range(5)], [1, 1, 2, 4, 8])
        self.assertEqual(how_many_lines(length=2, question=TRUE, columns=["next"], marks=["red"]), 24)
        self.assertEqual(how_many_lines([], ["next"], LED, 200), 2 ** 199)

    def test_numbers(self):
        marks = ["red", "blue"]
        for wrong in NO_LENGTHS:
            self.fails(InvalidNumber, wrong, how_many_lines, marks, ["next"], SIX_AND_ONE, wrong)
        self.fails_with(TooMany, 650, how_many_lines, marks, ["next"], SIX_AND_ONE, 200)
        self.in_time(how_many_lines, marks, ["next"], FIVE_AND_TWO, 200)


class Errors(Checks, unittest.TestCase):
    def test_in_order(self):
        for call, *rest in [(least_store,), (holds_where,), (sizes,), (how_many_lines, -1), (parting_store, None)]:
            for wrong in NO_LINE_MARKS:
                self.fails(InvalidList, wrong, call, wrong, None, None, *rest)
            for wrong in NO_LINE_COLUMNS:
                self.fails(InvalidList, wrong, call, ["red"], wrong, None, *rest)
            for wrong in junk() + NO_CLOSED:
                self.fails(InvalidQuestion, wrong, call, ["red"], ["next"], wrong, *rest)
            if call != parting_store:
                given = [-1] if call == how_many_lines else []
                self.fails_with(InvalidNumber if given else TooMany, -1 if given else 650, call, ["red", "blue"], ["next"],
                                SIX_AND_ONE, *given)
        for wrong in junk() + NO_CLOSED:
            self.fails(InvalidQuestion, wrong, parting_store, ["red"], ["next"], TRUE, wrong)
        self.fails_with(InvalidQuestion, None, parting_store, ["red", "blue"], ["next"], SIX_AND_ONE, None)


class Example(unittest.TestCase):
    def test_example(self):
        led, met, two, paired = LED, MET, TWO, PAIRED
        self.assertEqual(
            [parting_store([], ["next"], led, met), parting_store([], ["next"], led, two),
             holds_where([], ["next"], two), least_store([], ["next"], ("not", led))],
            [None, ("store", [], ["next"], [], []), "some", ("store", [], ["next"], [0], [])])
        self.assertEqual(
            [sizes([], ["next"], paired), sizes([], ["next"], two), how_many_lines([], ["next"], two, 2),
             how_many_lines([], ["next"], led, 3)],
            [([], [1, 0]), ([0, 0], [1]), 6, 4])
        self.assertEqual(least_store([], ["next"], ("and", paired, two)), (
            "store", [], ["next"], [0, 1], [("link", "next", 0, 1), ("link", "next", 1, 0)]))


if __name__ == "__main__":
    unittest.main()
