"""Points [50] and [51]: machines."""

import copy
import random
import unittest
from itertools import product

from line_samples import (
    LED, MET, NO_CLOSED, NO_LINE_COLUMNS, NO_LINE_MARKS, PAIRED, TRUE, TWO, Reader, all_letters, all_lists, at_least,
    closed_questions, conjunction, is_told_line, prefixed, told_store)
from samples import Checks, junk, reading

from depthquestions import machines
from depthquestions.errors import InvalidList, InvalidQuestion, TooMany
from depthquestions.machines import machine
from depthquestions.questions import depth, inward, plainer, renamed


def link(one, other):
    return ("link", "next", one, other)


def steps(one, other, many, names):
    """That so many steps lead from the one to the other."""
    if many == 1:
        return link(one, other)
    half = many // 2
    return ("some", names[0], ("and", steps(one, names[0], many - half, names[1:]),
                               steps(names[0], other, half, names[1:])))


def from_end(mark, many, more):
    """That an item with a mark is so many steps ahead of the one that is some more steps ahead of a last one."""
    last = ("not", ("some", "d", link("c", "d"))) if more else ("not", ("some", "c", link("b", "c")))
    tail = ("some", "c", ("and", steps("b", "c", more, ["d"]), last)) if more else last
    return ("some", "a", ("and", ("mark", mark, "a"), ("some", "b", ("and", steps("a", "b", many, ["c", "d"]), tail))))


def path_of(many):
    names = "abcd"[:many]
    return prefixed(["some"] * many, names, conjunction([link(one, other) for one, other in zip(names, names[1:])]))


FIVE_AND_TWO = ("and", from_end("red", 4, 1), from_end("blue", 2, 0))
SIX_AND_ONE = ("and", from_end("red", 4, 2), from_end("blue", 1, 0))
SIX_OR_FOUR = ("or", from_end("red", 4, 2), from_end("blue", 4, 0))
FOUR_APART = prefixed(["some"] * 4, "abcd", conjunction(
    [("not", ("same", one, other)) for one, other in ["ab", "ac", "ad", "bc", "bd", "cd"]]
    + [("not", link(one, other)) for one, other in product("abcd", repeat=2) if one != other]
    + [("mark", "red", "a"), ("mark", "blue", "b"), ("not", ("mark", "red", "c")), ("not", ("mark", "blue", "d"))]))


class MachineChecks(Checks):
    def walk(self, table, letters, line):
        state = 0
        for letter in line:
            state = table[state][letters.index(letter)]
        return state

    def reads(self, marks, question, most):
        """The machine tells what the plain reading of the stores of all short lines tells."""
        before = copy.deepcopy((marks, question))
        table, good = machine(marks, ["next"], question)
        self.assert_same(before, (marks, question))
        self.assert_new_lists((table, good), marks)
        self.least(table, good, all_letters(marks))
        for many in range(most + 1):
            for line in all_lists(marks, many):
                expected = is_told_line(line) and reading(told_store(marks, ["next"], line), question, {})
                self.assertIs(self.walk(table, all_letters(marks), line) in good, expected, (question, line))

    def least(self, table, good, letters):
        """Each state is met, in order; no two answer alike."""
        self.assertEqual(good, sorted(set(good)))
        met = [0]
        for state in met:
            self.assertEqual(len(table[state]), len(letters))
            for behind in table[state]:
                if behind not in met:
                    met.append(behind)
        self.assertEqual(met, list(range(len(table))))
        unlike = {(one, other) for one in met for other in met if (one in good) != (other in good)}
        size = -1
        while len(unlike) != size:
            size = len(unlike)
            unlike |= {(one, other) for one in met for other in met
                       if any(pair in unlike for pair in zip(table[one], table[other]))}
        self.assertEqual(size, len(met) * (len(met) - 1))


class Machines(MachineChecks, unittest.TestCase):
    def test_each_form(self):
        for question in [
                TRUE, ("false",), LED, MET, TWO, PAIRED, ("not", LED), ("and", LED, TWO), ("or", PAIRED, ("not", TWO)),
                ("some", "u", TRUE), ("all", "u", ("false",)), ("some", "u", ("mark", "red", "u")),
                ("all", "u", ("mark", "red", "u")), ("some", "u", link("u", "u")), ("all", "u", link("u", "u")),
                ("some", "u", ("same", "u", "u")), ("all", "u", ("not", ("same", "u", "u"))),
                ("some", "u", ("some", "v", link("u", "v"))), ("all", "u", ("all", "v", ("not", link("v", "u")))),
                ("some", "u", ("some", "v", ("and", link("u", "v"), ("not", ("same", "u", "v"))))),
                ("all", "u", ("some", "v", ("and", link("v", "u"), ("mark", "red", "v")))),
                ("some", "v", ("some", "u", ("and", link("v", "u"), link("u", "v")))),
                ("some", "v", ("all", "u", ("not", link("v", "u")))), path_of(3), path_of(4),
                ("some", "u", ("some", "v", ("mark", "red", "u"))), ("all", "u", ("all", "v", ("mark", "red", "u"))),
                ("some", "u", ("some", "v", ("mark", "red", "v"))), ("all", "u", ("some", "v", ("mark", "red", "v"))),
                at_least(3, ["red"]), at_least(4, [])]:
            self.reads(["red"], question, 4)
        self.assert_same(machine(question=TRUE, columns=["up"], marks=[]), ([[1, 2, 2], [1, 1, 1], [2, 2, 2]], [0, 2]))
        self.assert_same(machine([], ["up"], ("false",)), ([[0, 0, 0]], []))

    def test_many(self):
        for marks, most, many in [([], 6, 250), (["red"], 3, 250), (["b", "a"], 2, 150)]:
            for question in closed_questions(310 + len(marks), many, marks):
                self.reads(marks, question, most)

    def test_marks_as_they_stand(self):
        question = ("some", "u", ("and", ("mark", "a", "u"), ("not", ("mark", "b", "u"))))
        for marks in [["a", "b"], ["b", "a"]]:
            self.reads(marks, question, 2)
        for marks in [["a"], ["z", "a"], ["a", "z"]]:
            self.reads(marks, ("some", "u", ("mark", "a", "u")), 2)

    def test_names_like_marks(self):
        self.reads(["u"], ("some", "u", ("and", ("mark", "u", "u"), ("some", "next", link("u", "next")))), 3)

    def test_like_questions(self):
        for marks in [[], ["red"], ["red", "blue"]]:
            for question in closed_questions(320 + len(marks), 100, marks, size=20):
                expected = machine(marks, ["next"], question)
                exchanged = ("or", question, ("false",)) if depth(question) == 0 else ("and", TRUE, question)
                for like in [renamed(question), inward(question), inward(("not", ("not", question))), plainer(question),
                             ("not", ("not", question)), exchanged, ("or", question, question)]:
                    self.assert_same(machine(marks, ["next"], like), expected)
        for one, other in [(LED, TWO), (PAIRED, LED), (TWO, path_of(3))]:
            for word in ["and", "or"]:
                self.assert_same(machine([], ["next"], (word, one, other)), machine([], ["next"], (word, other, one)))
        self.assert_same(machine([], ["next"], LED), machine([], ["next"], MET))

    def test_results_are_new(self):
        table, good = machine([], ["next"], TWO)
        table[0][0] = 9
        good.clear()
        self.assertEqual(machine([], ["next"], TWO), ([[1, 2, 2], [1, 1, 1], [3, 3, 3], [3, 3, 3]], [3]))


class Errors(Checks, unittest.TestCase):
    def test_in_order(self):
        for wrong in NO_LINE_MARKS:
            self.fails(InvalidList, wrong, machine, wrong, None, None)
        for wrong in NO_LINE_COLUMNS:
            self.fails(InvalidList, wrong, machine, ["red"], wrong, None)
        for wrong in junk() + NO_CLOSED:
            self.fails(InvalidQuestion, wrong, machine, ["red"], ["next"], wrong)
        self.fails_with(InvalidList, ["next"], machine, ["next"], ["next"], None)


class Bounds(MachineChecks, unittest.TestCase):
    """What is met, and how many states there are, against machines made anew with other bounds and with the true ones."""

    def setUp(self):
        self.bounds = (machines.MOST_MET, machines.MOST_STATES)
        self.assertEqual(self.bounds, (3000, 600))

    def tearDown(self):
        machines.MOST_MET, machines.MOST_STATES = self.bounds

    def alike(self, marks, question, reader, most_met, most_states):
        machines.MOST_MET, machines.MOST_STATES = most_met, most_states
        expected = reader.too_many(most_met, most_states)
        if expected is None:
            self.assertEqual(len(machine(marks, ["next"], question)[0]), reader.told[-1][1])
        else:
            self.fails_with(TooMany, expected, machine, marks, ["next"], question)
        return expected

    def around(self, marks, question, chance):
        reader = Reader(marks)
        reader.made(question)
        met, states = max(row[0] for row in reader.told), max(row[1] for row in reader.told)
        found = []
        for most_met, most_states in [(met, states), (met - 1, states), (met, states - 1), (met - 1, states - 1)] + [
                (chance.randint(1, met + 1), chance.randint(1, states + 1)) for _ in range(3)]:
            found.append(self.alike(marks, question, reader, max(1, most_met), most_states))
        return found

    def test_what_is_met(self):
        chance = random.Random(330)
        found = []
        for marks, deep, many in [([], 3, 120), (["red"], 3, 120), (["b", "a"], 2, 60)]:
            for question in closed_questions(331 + len(marks), many, marks, depth=deep, size=12):
                found += self.around(marks, question, chance)
        for question in [LED, TWO, PAIRED, path_of(3), path_of(4), at_least(3, []), at_least(4, []), from_end("red", 3, 0), at_least(2, ["red"]), from_end("red", 2, 0),
                         ("not", from_end("red", 1, 1)), ("all", "a", ("some", "b", ("all", "c", ("or", link(
                             "a", "b"), ("and", link("b", "c"), ("mark", "red", "c"))))))]:
            found += self.around(["red"], question, chance)
        self.assertGreater(len({value for value in found if value is not None}), 25)

    def test_names_that_are_not_free(self):
        chance = random.Random(332)
        for text in [("some", "t", TWO), ("all", "t", TWO), ("some", "u", ("all", "v", ("mark", "red", "u"))),
                     ("all", "u", ("some", "v", ("mark", "red", "u"))), ("all", "u", ("false",)),
                     ("some", "u", ("some", "v", ("some", "w", link("u", "w"))))]:
            self.around(["red"], text, chance)

    def test_first_part_that_is_beyond(self):
        marks = ["red", "blue"]
        big, bigger = from_end("red", 4, 2), SIX_AND_ONE
        self.assertEqual(len(machine(marks, ["next"], big)[0]), 132)
        self.fails_with(TooMany, 650, machine, marks, ["next"], bigger)
        self.fails_with(TooMany, 650, machine, marks, ["next"], ("or", bigger, FOUR_APART))
        self.fails_with(TooMany, 3001, machine, marks, ["next"], ("or", FOUR_APART, bigger))
        self.fails_with(TooMany, 650, machine, marks, ["next"], ("or", TRUE, ("not", bigger)))
        self.fails_with(TooMany, 3001, machine, marks, ["next"], ("and", ("or", TRUE, FOUR_APART), bigger))
        self.fails_with(TooMany, 3001, machine, marks, ["next"], SIX_OR_FOUR)

    def test_just_within(self):
        marks = ["red", "blue"]
        table, good = self.in_time(machine, marks, ["next"], FIVE_AND_TWO)
        self.assertEqual(len(table), 590)
        letters = all_letters(marks)
        chance = random.Random(333)
        for _ in range(200):
            line = [(chance.choice([0, 0, 0, 1, 2]) if at else chance.choice([1, 2]), chance.choice(letters)[1])
                    for at in range(chance.randint(0, 10))]
            expected = reading(told_store(marks, ["next"], line), FIVE_AND_TWO, {})
            self.assertIs(self.walk(table, letters, line) in good, expected)
        within = ("or", from_end("red", 4, 1), from_end("blue", 4, 0))
        self.assertEqual(len(self.in_time(machine, marks, ["next"], within)[0]), 68)

    def test_behind_all_other_errors(self):
        marks = ["red", "blue"]
        self.fails_with(InvalidList, ["red"], machine, marks, ["red"], SIX_AND_ONE)
        self.fails_with(TooMany, 650, machine, marks[::-1], ["next"], SIX_AND_ONE)


class Limits(MachineChecks, unittest.TestCase):
    def test_questions_of_depth_four(self):
        marks = ["red", "blue"]
        four = prefixed(["all", "some", "all", "some"], "abcd", ("or", conjunction(
            [("not", ("same", "a", "b")), ("mark", "red", "a"), link("c", "d")]), ("and", link("a", "b"), (
                "or", ("mark", "blue", "c"), link("d", "c")))))
        for question in [at_least(4, ["red", "blue"]), four, from_end("red", 4, 2), path_of(4), ("and", at_least(
                4, ["red"]), ("not", at_least(4, ["blue"]))), at_least(4, [], [lambda one, other: ("not", link(
                    one, other))])]:
            self.assertEqual(depth(question), 4)
            table, good = self.in_time(machine, marks, ["next"], question)
            for many in range(3):
                for line in all_lists(marks, many)[::1 + many * 4]:
                    expected = is_told_line(line) and reading(told_store(marks, ["next"], line), question, {})
                    self.assertIs(self.walk(table, all_letters(marks), line) in good, expected)

    def test_sixty_tuples(self):
        question = TRUE
        for at in range(59):
            question = ("not", question)
        self.assertEqual(len(self.in_time(machine, [], ["next"], question)[0]), 1)
        rows = [("or", ("mark", "red", one), link(one, other)) for one, other in ["ab", "bc", "ca", "ac", "cb", "ba"]]
        rows += [("not", link("a", "a")), ("not", link("b", "b")), ("not", ("same", "a", "b")), ("mark", "blue", "c")]
        self.reads(["red", "blue"], prefixed(["all", "some", "all"], "abc", conjunction(rows)), 2)
        self.reads(["red", "blue"], prefixed(["some", "all", "some"], "abc", conjunction(rows)), 2)


class Example(unittest.TestCase):
    def test_example(self):
        self.assertEqual(
            [machine([], ["next"], TWO), machine([], ["next"], LED)],
            [([[1, 2, 2], [1, 1, 1], [3, 3, 3], [3, 3, 3]], [3]), ([[1, 1, 2], [1, 1, 1], [2, 1, 2]], [0, 2])])


if __name__ == "__main__":
    unittest.main()
