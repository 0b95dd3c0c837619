"""Points [55] to [58]: a base under edits."""

import copy
import random
import unittest
from itertools import product

from samples import Checks, junk, pieces_store, random_stores, reading
from test_answers import NO_NUMBERS, asked, no_rows
from test_codes import NO_COLUMNS, NO_MARKS
from test_deeds import NO_FACTS
from test_deeds import NO_NUMBERS as NO_NEW_ITEMS
from test_kept import NO_EDITS, random_edit

from depthquestions.answers import how_many, is_answer, page
from depthquestions.base import Base, read_base
from depthquestions.deeds import done
from depthquestions.errors import (
    InvalidFact, InvalidFlag, InvalidItem, InvalidList, InvalidName, InvalidNumber, InvalidQuestion, InvalidStore,
    InvalidText, NothingToRedo, NothingToUndo, StoreError, TooMany)
from depthquestions.questions import depth
from depthquestions.texts import read_question, written, written_store

LED = "some z: (next(x, z) and red(z))"
LED_QUESTION = read_question(LED)
FILLED = [("add", 1), ("add", 2), ("add", 5), ("put", ("link", "next", 1, 2)), ("put", ("mark", "red", 2))]
STORE = ("store", ["red"], ["next"], [1, 2, 5], [("link", "next", 1, 2), ("mark", "red", 2)])
NO_NAMES = ["some", "", "Red", "a b", None, True, 3, [], ["led"], ("led",), {}, 10 ** 29, "1a", "x" * 31]
TEXT = "marks red;\ncolumns next;\nitems 1, 2, 5;\nnext(1, 2);\nred(2);\nask led x: some z: (next(x, z) and red(z))\n"


def small():
    base = Base(["red"], ["next"])
    base.define("led", LED, ["x"])
    base.together(FILLED)
    return base


def told(base):
    """All that a base tells of itself."""
    return (base.store(), base.defined(), [base.definition(name) for name in base.defined()], base.log(), len(base),
            base.text())


def full_answers(store, question, names):
    return [row for row in product(store[3], repeat=len(names)) if reading(store, question, dict(zip(names, row)))]


class BaseChecks(Checks):
    def refused(self, error, value, base, call, *given, **named):
        """A call raises an error with the value itself, and changes nothing."""
        before = told(base)
        self.fails(error, value, call, *given, **named)
        self.assert_same(told(base), before)

    def refused_with(self, error, value, base, call, *given, **named):
        before = told(base)
        self.fails_with(error, value, call, *given, **named)
        self.assert_same(told(base), before)

    def news(self, base, before, after):
        """The news between two stores, by the plain reading."""
        found = []
        for name in base.defined():
            text, names = base.definition(name)
            question = read_question(text)
            ahead, behind = [full_answers(store, question, names) for store in (before, after)]
            if ahead != behind:
                found.append((name, [row for row in behind if row not in ahead],
                              [row for row in ahead if row not in behind]))
        return found


class Definitions(BaseChecks, unittest.TestCase):
    def test_at_the_beginning(self):
        for many, columns in product([0, 1, 4], [[], ["next"], ["up", "next"]]):
            with self.subTest(many=many, columns=columns):
                marks = ["a", "b", "c", "d"][:many]
                before = copy.deepcopy((marks, columns))
                base = Base(columns=columns, marks=marks)
                self.assert_same(base.store(), ("store", marks, columns, [], []))
                self.assert_new_lists([base.store(), base.store()], marks, columns)
                self.assertEqual((len(base), base.defined(), base.log()), (0, [], []))
                self.assertEqual(base.text(), written_store(base.store()))
                self.assertIsNone(base.define("one", "x = y", ["x", "y"]))
                marks.append("zz")
                columns.append("zz")
                self.assert_same(base.store(), ("store", *before, [], []))
                base.define("any", "some u: x = u", ["x"])
                self.assertEqual(base.defined(), ["one", "any"])
                deeper = "some u: some v: x = u"
                columns.remove("zz")
                if len(columns) == 2:
                    self.refused_with(InvalidQuestion, read_question(deeper), base, base.define, "deep", deeper, ["x"])
                    self.refused_with(InvalidQuestion, read_question("all u: all v: u = v"), base, base.told,
                                      "all u: all v: u = v")
                else:
                    self.assertIsNone(base.define("deep", deeper, ["x"]))
                    self.assertIs(base.told("all u: all v: u = v"), True)

    def test_errors_of_a_new_base(self):
        for wrong in NO_MARKS:
            self.fails(InvalidList, wrong, Base, wrong, None)
        for wrong in NO_COLUMNS:
            self.fails(InvalidList, wrong, Base, ["red"], wrong)

    def test_order_and_places(self):
        base = Base(["red"], ["next"])
        for name in ["b", "a", "c"]:
            base.define(name, "red(x)", ["x"])
        base.define(names=["y", "x"], text="red(x) # red\n", name="a")
        self.assert_same(base.defined(), ["b", "a", "c"])
        self.assert_same(base.definition("a"), ("red(x)", ["y", "x"]))
        self.assertIsNone(base.forget("b"))
        self.assert_same(base.defined(), ["a", "c"])
        base.define("b", "not  (red( x) and true)", ["x"])
        self.assert_same(base.defined(), ["a", "c", "b"])
        self.assert_same(base.definition(name="b"), ("not (red(x) and true)", ["x"]))
        base.forget(name="c")
        base.define("c", "true", ["x"])
        self.assert_same(base.defined(), ["a", "b", "c"])
        base.defined().clear()
        base.definition("a")[1].clear()
        names = ["x"]
        base.define("d", "true", names)
        names.append("y")
        self.assert_same([base.defined(), base.definition("a")[1], base.definition("d")[1]],
                         [["a", "b", "c", "d"], ["y", "x"], ["x"]])

    def test_whether_a_name_is_defined(self):
        base = small()
        self.assertIs("led" in base, True)
        self.assertIs("next" in base, False)
        for value in [*junk(), *NO_NAMES, ("led",), ["led"], base]:
            self.assertIs(value in base, False)
        base.forget("led")
        self.assertIs("led" in base, False)

    def test_eight_names(self):
        base = Base(["red"], ["next"])
        for name in "abcdefgh":
            base.define(name, "red(x)", ["x"])
        self.refused_with(TooMany, 9, base, base.define, "i", "red(x)", ["x"])
        base.define("d", "not red(x)", ["x"])
        self.refused(InvalidList, 3, base, base.define, "i", "red(x)", 3)
        self.assertEqual(base.defined(), list("abcdefgh"))
        base.forget("a")
        base.define("i", "red(x)", ["x"])
        self.assertEqual(base.defined(), list("bcdefghi"))
        self.refused_with(TooMany, 9, base, base.define, "a", "red(x)", ["x"])

    def test_errors_of_define(self):
        base = small()
        for wrong in NO_NAMES + junk():
            self.refused(InvalidName, wrong, base, base.define, wrong, None, None)
        for wrong in [value for value in junk() if not isinstance(value, str)]:
            self.refused(InvalidText, wrong, base, base.define, "led", wrong, None)
        for text, place in [("", (1, 1)), ("red(x", (1, 6)), ("true true", (1, 6)), ("\n some x red(x)", (2, 9)),
                            ("red(x)?", (1, 7))]:
            self.refused_with(InvalidText, place, base, base.define, "led", text, None)
        for text in ["blue(x)", "up(x, y)", "next(x)", "red(x, y)", "some x: some x: true", "red(x) and some x: true",
                     "some u: some v: some w: red(x)", "not all u: all v: all w: u = w"]:
            self.refused_with(InvalidQuestion, read_question(text), base, base.define, "led", text, None)
        for wrong in [[], ["y"], ["x", "y", "w"], ["x", "x"], ("x",), None, "x", ["x", "in"], ["x", "z"], ["x", 1], {}, True]:
            self.refused(InvalidList, wrong, base, base.define, "led", LED, wrong)

    def test_names_that_are_not_defined(self):
        base = small()
        calls = [(base.forget,), (base.definition,), (base.count,), (base.has, (1,)), (base.page, -1, -1)]
        for call, *rest in calls:
            for wrong in NO_NAMES + junk() + ["lad", "next"]:
                self.refused(InvalidName, wrong, base, call, wrong, *rest)
        base.forget("led")
        for call, *rest in calls:
            self.refused(InvalidName, "led", base, call, "led", *rest)


class Answers(BaseChecks, unittest.TestCase):
    def test_many(self):
        chance = random.Random(400)
        for columns in range(3):
            names_of = ["next", "up"][:columns]
            stores = [store for store in random_stores(401, 200, 6)
                      if set(store[2]) == set(names_of) and len(store[1]) == 2][:12]
            most = 1 if columns == 2 else 2
            questions = [row for row in asked(402 + columns, 80, columns, size=12) if depth(row[0]) <= most]
            for store in stores:
                base = read_base(written_store(store))
                self.assert_same(base.store(), store)
                for question, names in chance.sample(questions, 5):
                    base.define("q", written(question), names)
                    rows = full_answers(store, question, names)
                    self.assert_same(base.count("q"), len(rows))
                    self.assert_same(base.count("q"), how_many(store, question, names))
                    self.assert_same(base.page("q", 0, 1000), page(store, question, names, 0, 1000))
                    self.assert_same(list(base.each("q")), rows)
                    for row in list(product(store[3], repeat=len(names)))[:6]:
                        self.assert_same(base.has("q", row), is_answer(store, question, names, row))
                    if not rows:
                        self.assertEqual(list(base.each("q")), [])

    def test_errors(self):
        base = small()
        base.define("red", "red(x)", ["x"])
        for wrong in no_rows(1):
            if wrong != (5,):
                self.assertIs(base.has("red", wrong), False)
        self.assertIs(base.has(row=(2,), name="red"), True)
        self.assertEqual(base.count(name="red"), 1)
        self.assertEqual(base.page(many=1, number=0, name="red"), [(2,)])
        for wrong in [*NO_NUMBERS, 2]:
            self.refused(InvalidNumber, wrong, base, base.page, "red", wrong, -1)
        for wrong in [*NO_NUMBERS, 1001]:
            self.refused(InvalidNumber, wrong, base, base.page, "red", 1, wrong)

    def test_each_does_nothing_before_it_is_asked(self):
        base = small()
        base.define("red", "red(x)", ["x"])
        late = base.each("red")
        wrong, unknown = base.each(["red"]), base.each(name="blue")
        base.put(("mark", "red", 5))
        self.assertEqual(next(late), (2,))
        base.take(("mark", "red", 5))
        base.take(("mark", "red", 2))
        base.forget("red")
        self.assertEqual(list(late), [(5,)])
        with self.assertRaises(InvalidName) as caught:
            next(wrong)
        self.assertEqual(caught.exception.value, ["red"])
        base.define("blue", "next(x, y)", ["x", "y"])
        self.assertEqual(list(unknown), [(1, 2)])
        gone = base.each("blue")
        base.forget("blue")
        self.assertRaises(InvalidName, list, gone)

    def test_told(self):
        base = small()
        for text, expected in [("some x: red(x)", True), ("all x: red(x)", False), ("true", True), ("false", False),
                               ("all x: some y: (next(x, y) or next(y, x))", False), ("not all x: red(x)", True),
                               ("some x: some y: (next(x, y) and red(y) and not red(x))", True)]:
            self.assertIs(base.told(text), expected)
        self.assertIs(base.told(text="true"), True)
        for wrong in [value for value in junk() if not isinstance(value, str)]:
            self.refused(InvalidText, wrong, base, base.told, wrong)
        self.refused_with(InvalidText, (1, 5), base, base.told, "red(")
        for text in ["red(x)", "x = x", "blue(x)", "some x: blue(x)", "some x: red(y)",
                     "all u: all v: all w: true", "some u: some u: true"]:
            self.refused_with(InvalidQuestion, read_question(text), base, base.told, text)

    def test_told_like_the_plain_reading(self):
        for columns in range(3):
            questions = [row[0] for row in asked(410 + columns, 150, columns, size=12)]
            for store in [store for store in random_stores(411, 60, 6) if len(store[1]) == 2
                          and set(store[2]) == set(["next", "up"][:columns])]:
                base = read_base(written_store(store))
                for question in questions:
                    for word in ["some", "all"]:
                        closed = (word, "x", (word, "y", question))
                        if depth(closed) <= (1 if columns == 2 else 2) and "'t'" not in repr(question):
                            try:
                                found = base.told(written(closed))
                            except InvalidQuestion:
                                continue
                            self.assertIs(found, reading(store, closed, {}))


class Changes(BaseChecks, unittest.TestCase):
    def changes(self, base, call, given, edits, keep=True):
        """A call makes a change and tells its news."""
        before = base.store()
        after = done(before, edits)
        expected = self.news(base, before, after)
        found = call(*given)
        self.assert_same(found, expected)
        self.assert_new_lists(found)
        self.assert_same(base.store(), after)
        self.assertEqual(len(base), len(after[3]))
        for name in base.defined():
            text, names = base.definition(name)
            self.assertEqual(list(base.each(name)), full_answers(after, read_question(text), names))

    def test_walks(self):
        chance = random.Random(420)
        for columns in range(3):
            names_of = ["next", "up"][:columns]
            stores = [store for store in random_stores(421, 200, 5)
                      if set(store[2]) == set(names_of) and len(store[1]) == 2][:8]
            most = 1 if columns == 2 else 2
            questions = [row for row in asked(422 + columns, 80, columns, size=12) if depth(row[0]) <= most]
            for store in stores:
                base = read_base(written_store(store))
                made, taken = [], []
                for step in range(20):
                    if step % 5 == 0:
                        question, names = chance.choice(questions)
                        base.define(chance.choice("abcdefgh"), written(question), names)
                    choice = chance.random()
                    if choice < 0.2 and made:
                        taken.append(made.pop())
                        edits = [({"put": "take", "take": "put", "add": "drop", "drop": "add"}[word], value)
                                 for word, value in taken[-1][::-1]]
                        self.changes(base, base.undo, (), edits)
                    elif choice < 0.4 and taken:
                        made.append(taken.pop())
                        self.changes(base, base.redo, (), made[-1])
                    elif choice < 0.6:
                        edits, after = [], base.store()
                        for _ in range(chance.randint(0, 4)):
                            edits.append(random_edit(chance, after))
                            after = done(after, edits[-1:])
                        before = told(base)
                        looked = base.together(edits, keep=False)
                        self.assert_same(told(base), before)
                        self.assert_same(looked, self.news(base, base.store(), after))
                        self.changes(base, base.together, (edits,), edits)
                        made.append(edits)
                        taken = []
                    else:
                        edit = random_edit(chance, base.store())
                        self.changes(base, getattr(base, edit[0]), (edit[1],), [edit])
                        made.append([edit])
                        taken = []
                    self.assertEqual([change[1] if change[0] == "together" else [change] for change in base.log()], made)

    def test_news(self):
        base = small()
        base.define("bare", "not red(x) and not some u: next(u, x)", ["x"])
        base.define("pair", "red(x) and red(y) and not x = y", ["y", "x"])
        self.assert_same(base.put(("mark", "red", 1)), [("bare", [], [(1,)]), ("pair", [(1, 2), (2, 1)], [])])
        self.assert_same(base.put(fact=("link", "next", 2, 1)), [("led", [(2,)], [])])
        self.assert_same(base.put(("link", "next", 5, 5)), [("bare", [], [(5,)])])
        self.assert_same(base.take(fact=("link", "next", 5, 5)), [("bare", [(5,)], [])])
        self.assert_same(base.drop(item=5), [("bare", [], [(5,)])])
        self.assert_same(base.add(item=7), [("bare", [(7,)], [])])
        self.assert_same(base.together([("take", ("mark", "red", 1)), ("put", ("mark", "red", 1))]), [])
        self.assert_same(base.together(edits=[], keep=False), [])
        self.assertEqual(len(base.log()), 8)

    def test_log(self):
        base = small()
        edits = [("add", 9), ("drop", 9)]
        base.together(edits, keep=True)
        edits.append(("add", 3))
        base.together([])
        base.add(0)
        expected = [("together", FILLED), ("together", [("add", 9), ("drop", 9)]), ("together", []), ("add", 0)]
        self.assert_same(base.log(), expected)
        base.log()[1][1].clear()
        base.log().clear()
        self.assert_same(base.log(), expected)
        self.assert_new_lists([base.log(), base.log()], edits, FILLED)
        for number in range(4):
            self.assertIsInstance(base.undo(), list)
            self.assert_same(base.log(), expected[:3 - number])
        self.assertRaises(NothingToUndo, base.undo)
        self.assertEqual(len(base), 0)
        for number in range(4):
            base.redo()
            self.assert_same(base.log(), expected[:number + 1])
        self.assertRaises(NothingToRedo, base.redo)

    def test_a_change_of_no_edits_stands_in_the_way_of_redo(self):
        base = small()
        base.add(0)
        base.undo()
        base.together([], keep=False)
        self.refused(InvalidItem, 1, base, base.add, 1)
        self.assertEqual(base.redo(), [])
        base.undo()
        base.together([])
        self.assertRaises(NothingToRedo, base.redo)

    def test_definitions_are_no_changes(self):
        base = small()
        base.put(("mark", "red", 5))
        base.define("red", "red(x)", ["x"])
        self.assert_same(base.undo(), [("red", [], [(5,)])])
        base.define("two", "red(x) and not red(y)", ["x", "y"])
        base.forget("led")
        self.assert_same(base.redo(), [("red", [(5,)], []), ("two", [(5, 1)], [(2, 5)])])
        self.assertEqual(base.defined(), ["red", "two"])
        base.undo()
        base.define("red", "not red(x)", ["x"])
        self.assert_same(base.redo(), [("red", [], [(5,)]), ("two", [(5, 1)], [(2, 5)])])

    def test_errors_of_edits(self):
        base = small()
        base.add(0)
        base.undo()
        for wrong in [*NO_FACTS, ("mark", "red", 2), ("link", "next", 1, 5), ("link", "next", 5, 2)]:
            if wrong != ("mark", "red", 5):
                self.refused(InvalidFact, wrong, base, base.put, wrong)
                self.refused(InvalidFact, wrong, base, base.together, [("put", wrong)])
        for wrong in [*NO_FACTS, ("mark", "red", 1)]:
            self.refused(InvalidFact, wrong, base, base.take, wrong)
            self.refused(InvalidFact, wrong, base, base.together, [("take", wrong)], keep=False)
        for wrong in [*NO_NEW_ITEMS, 1]:
            self.refused(InvalidItem, wrong, base, base.add, wrong)
            self.refused(InvalidItem, wrong, base, base.together, [("add", 3), ("add", wrong)])
        for wrong in [*NO_NEW_ITEMS, 1, 7]:
            self.refused(InvalidItem, wrong, base, base.drop, wrong)
        self.assertEqual(base.redo(), [])

    def test_errors_of_together(self):
        base = small()
        for wrong in [value for value in NO_EDITS if value not in ([], [("add", 9)])]:
            self.refused(InvalidList, wrong, base, base.together, wrong, keep=3) if not isinstance(wrong, list) else None
            self.fails_with(InvalidList, [wrong], base.together, [wrong], keep=None)
        for wrong in [None, 0, 1, "True", [], (True,), {}, 10 ** 29]:
            self.refused(InvalidFlag, wrong, base, base.together, [("add", 1)], keep=wrong)
        for keep in [True, False]:
            self.refused_with(InvalidItem, 1, base, base.together, [("add", 0), ("add", 1), ("drop", 77)], keep=keep)
            self.refused_with(InvalidFact, ("mark", "red", 2), base, base.together, [
                ("add", 0), ("put", ("mark", "red", 2))], keep=keep)
        self.assertEqual(base.store(), STORE)
        self.assertRaises(TypeError, base.together, [], True)

    def test_too_many_items(self):
        base = Base([], [])
        for first in range(0, 2000, 200):
            base.together([("add", first + at) for at in range(200)])
        self.refused_with(TooMany, 2001, base, base.add, 5000)
        self.refused_with(TooMany, 2001, base, base.together, [("drop", 0), ("add", 5000), ("add", 5001)])
        self.refused_with(InvalidItem, 7, base, base.add, 7)

    def test_nothing_to_undo(self):
        base = Base(["red"], [])
        base.define("red", "red(x)", ["x"])
        for error, call in [(NothingToUndo, base.undo), (NothingToRedo, base.redo)]:
            with self.assertRaises(error) as caught:
                call()
            self.assertIs(type(caught.exception), error)
            self.assertIsInstance(caught.exception, StoreError)


class Copies(BaseChecks, unittest.TestCase):
    def test_copies(self):
        base = small()
        base.add(9)
        base.add(8)
        base.undo()
        other = base.copy()
        self.assertIs(type(other), Base)
        self.assert_same(told(base), told(other))
        self.assertTrue(base == other)
        before = told(base)
        self.assertEqual(other.redo(), [])
        other.put(("mark", "red", 9))
        other.define("led", "red(x)", ["x"])
        other.define("more", "red(x)", ["x"])
        other.undo()
        other.undo()
        other.undo()
        other.undo()
        other.forget("led")
        self.assert_same(told(base), before)
        self.assertEqual(base.count("led"), 1)
        after = told(other)
        base.redo()
        base.forget("led")
        base.define("new", "true", ["x"])
        base.together([("drop", 8)])
        self.assert_same(told(other), after)

    def test_equality(self):
        one, other = small(), read_base(TEXT)
        self.assertTrue(one == other and not one != other)
        self.assertNotEqual(one.log(), other.log())
        other.add(9)
        self.assertTrue(one != other and not one == other)
        other.undo()
        self.assertTrue(one == other)
        other.define("led", LED.replace("z", "u"), ["x"])
        self.assertFalse(one == other)
        other.define("led", f"# the same\n{LED}", ["x"])
        self.assertTrue(one == other)
        other.define("led", LED, ["x", "y"])
        self.assertFalse(one == other)
        other.define("led", LED, ["y", "x"])
        one.define("led", LED, ["x", "y"])
        self.assertFalse(one == other)
        for value in [*junk(), STORE, TEXT, one.store()]:
            self.assertIs(one == value, False)
            self.assertIs(one != value, True)

    def test_names_in_another_order(self):
        one, other = Base([], []), Base([], [])
        for first, second, base in [("a", "b", one), ("b", "a", other)]:
            base.define(first, "x = x", ["x"])
            base.define(second, "x = x", ["x"])
        self.assertFalse(one == other)
        one.forget("a")
        one.define("a", "x = x", ["x"])
        self.assertTrue(one == other)
        self.assertFalse(Base([], []) == Base(["a"], []))
        self.assertTrue(Base(["a"], []) == Base(["a"], []))


class Texts(BaseChecks, unittest.TestCase):
    def test_back_and_forth(self):
        chance = random.Random(430)
        for columns in range(3):
            questions = [row for row in asked(431 + columns, 80, columns, size=12)
                         if depth(row[0]) <= (1 if columns == 2 else 2)]
            for store in [store for store in random_stores(432, 100, 6) if len(store[1]) == 2
                          and set(store[2]) == set(["next", "up"][:columns])]:
                base = read_base(written_store(store))
                for name in chance.sample("abcdefgh", chance.randint(0, 8)):
                    question, names = chance.choice(questions)
                    base.define(name, written(question), names)
                rows = [f"ask {' '.join([name, *base.definition(name)[1]])}: {base.definition(name)[0]}\n"
                        for name in base.defined()]
                self.assertEqual(base.text(), written_store(store) + "".join(rows))
                again = read_base(base.text())
                self.assertTrue(again == base)
                self.assert_same(told(again)[:3], told(base)[:3])
                self.assertEqual(again.log(), [])
                self.assertRaises(NothingToUndo, again.undo)
                self.assertRaises(NothingToRedo, again.redo)

    def test_rows_put_in_anew(self):
        base = small()
        for text in [
                TEXT, TEXT[:-1], TEXT.replace("marks red;\n", "  marks\nred;# red\n\n"), TEXT + "\n\n",
                TEXT.replace("ask", "\n\nask"), TEXT.replace("ask led x: ", "ask led x:"),
                TEXT.replace(": some", ":\t some"), TEXT.replace("red(z))", "red(z)) # led: to red"),
                TEXT.replace("red(2);\n", "red(2);\n#ask led x: true\n"),
                TEXT.replace("items 1, 2, 5;\nnext(1, 2);\nred(2);", "items 5, 1, 2; red(2); next(1, 2);")]:
            self.assertTrue(read_base(text=text) == base, text)

    def test_without_questions(self):
        base = read_base("marks ask;columns;items 1;\nask(1);")
        self.assert_same(base.store(), ("store", ["ask"], [], [1], [("mark", "ask", 1)]))
        self.assertEqual(base.text(), "marks ask;\ncolumns;\nitems 1;\nask(1);\n")
        self.assertEqual(base.defined(), [])
        self.assertEqual(len(read_base("marks;columns;items;")), 0)

    def test_two_names_and_many_questions(self):
        head = "marks red;\ncolumns next, up;\nitems 3;\n"
        base = read_base(head + "ask one x y: red(x) and red(y)\n\nask two y x:x = y\nask three b: some u:true\n")
        self.assertEqual(base.defined(), ["one", "two", "three"])
        self.assertEqual(base.definition("two"), ("x = y", ["y", "x"]))
        self.assertEqual(base.text(), head + "ask one x y: red(x) and red(y)\nask two y x: x = y\nask three b: some u: true\n")

    def test_wrong_texts(self):
        for wrong in [value for value in junk() if not isinstance(value, str)]:
            self.fails(InvalidText, wrong, read_base, wrong)
        for text, place in [("", (1, 1)), ("ask led x: true", (1, 1)), ("marks red;\nask led x: red(x)\n", (2, 1)),
                            ("marks; columns; items 1;\n\n one(1;\nask a x: true", (3, 7)),
                            ("marks; columns; items 1;\nask(1\nask a : true", (3, 1)), ("marks\nask;\nask a x: true", (3, 1)),
                            ("marks red; columns; items; ask led x: true", (1, 32))]:
            self.fails_with(InvalidText, place, read_base, text)
        self.fails_with(InvalidStore, ("store", [], [], [1, 1], []), read_base, "marks;columns;items 1, 1;\nask a: true\n")

    def test_wrong_lines(self):
        head = "marks red;\ncolumns next;\nitems 1, 2;\n"
        right = "ask a x: red(x)\n"
        for line in [
                "ask a: true", "ask: true", "ask a x true", "ask  a x: true", "ask a  x: true", "ask a x : true",
                " ask a x: true", "ask a X: true", "ask some x: true", "ask a in: true", "ask\ta x: true", "red(1);",
                "# note", " ", "\t", "asks a x: true", "ask a 1: true", "ask a, x: true", "ask a x", "ask", "ask a x;: true",
                "asked a x: true", f"ask a {'x' * 31}: true", ": true"]:
            text = head + right.replace(" a ", " b ") + "\n" + line + "\n" + "ask a x: red(y)\n"
            self.fails_with(InvalidText, (6, 1), read_base, text)
        self.fails_with(InvalidText, (5, 1), read_base, head + right + right)
        self.fails_with(InvalidText, (6, 1), read_base, head + right + "\nask a x: red(\n")
        self.fails_with(InvalidText, (4, 1), read_base, head + "ask \n")
        self.fails_with(InvalidText, (4, 1), read_base, head + "ask a\n" + right)

    def test_errors_of_define(self):
        head = "marks red;\ncolumns next;\nitems 1, 2;\nask a x: red(x)\n"
        for line, error, value in [
                ("ask b x: red(x", InvalidText, (1, 7)), ("ask b x:red(x", InvalidText, (1, 6)),
                ("ask b x: red(x):", InvalidText, (1, 8)), ("ask b x:", InvalidText, (1, 1)),
                ("ask b x: ", InvalidText, (1, 2)), ("ask b x:  # true", InvalidText, (1, 9)),
                ("ask b x: blue(x)", InvalidQuestion, ("mark", "blue", "x")), ("ask b x: red(y)", InvalidList, ["x"]),
                ("ask b x y z: red(x)", InvalidList, ["x", "y", "z"]), ("ask b x x: red(x)", InvalidList, ["x", "x"]),
                ("ask b x: some x: red(x)", InvalidList, ["x"])]:
            self.fails_with(error, value, read_base, f"{head}{line}\nask a x: true\n")
        rows = "".join(f"ask {name} x: red(x)\n" for name in "bcdefgh")
        self.assertEqual(read_base(head + rows).defined(), list("abcdefgh"))
        self.fails_with(TooMany, 9, read_base, head + rows + "ask i x: red(x)\nask a: true")
        self.fails_with(InvalidText, (12, 1), read_base, head + rows + "ask a x: red(x)\n")
        self.fails_with(InvalidText, (1, 7), read_base, head + rows + "ask i x: red(x\n")
        two = "marks;\ncolumns a, b;\nitems;\nask b x: some u: some v: u = x\n"
        self.fails_with(InvalidQuestion, ("some", "u", ("some", "v", ("same", "u", "x"))), read_base, two)


class Limits(BaseChecks, unittest.TestCase):
    def test_two_thousand_answers(self):
        store = pieces_store(3, 400, 17)
        base = self.in_time(read_base, written_store(store))
        texts = [
            ("next(x, y) or next(y, x)", ["x", "y"]), ("some z: (next(x, z) and next(z, y))", ["x", "y"]),
            ("some z: some w: (next(x, z) and next(z, w) and next(w, y) and not w = x)", ["x", "y"]),
            ("all z: (not next(x, z) or some w: (next(z, w) and red(w)))", ["x"]),
            ("all z: some w: ((next(z, w) or next(w, z) or w = x or red(w)) and not w = z and not w = x)", ["x"]),
            ("red(x) and blue(y) and some z: (next(x, z) and next(y, z) or next(x, y))", ["y", "x"]),
            ("some z: (next(z, x) and next(z, y))", ["x", "y"]), ("not some z: (next(z, x) or next(x, z))", ["x"])]
        for name, (text, names) in zip("abcdefgh", texts):
            self.in_time(base.define, name, text, names)
            self.assertLessEqual(self.in_time(base.count, name), 2000)
        news = self.in_time(base.together, [("add", 1000 + at) for at in range(100)] + [
            ("put", ("link", "next", 1000 + at, 1001 + at)) for at in range(99)])
        self.assertEqual(news[0][0], "a")
        self.assertEqual(len(news[0][1]), 198)
        for call, *given in [(base.put, ("mark", "red", 1000)), (base.take, ("link", "next", 1000, 1001)), (base.undo,),
                             (base.redo,), (base.add, 999)]:
            self.in_time(call, *given)
        self.assertTrue(self.in_time(read_base, self.in_time(base.text)) == base)
        self.assertIs(self.in_time(base.told, "all z: some w: (z = w or next(z, w) and not red(w))"), True)

    def test_two_hundred_edits(self):
        base = Base(["red"], ["next"])
        base.define("a", "some z: (next(x, z) and some u: (next(z, u) and red(u)))", ["x"])
        edits = [("add", at) for at in range(100)] + [("put", ("link", "next", at, (at + 1) % 100)) for at in range(100)]
        self.assertEqual(self.in_time(base.together, edits), [])
        self.assertEqual(base.put(("mark", "red", 7)), [("a", [(5,)], [])])
        self.assertEqual(self.in_time(base.undo), [("a", [], [(5,)])])
        self.assertEqual(self.in_time(base.undo), [])
        self.assertEqual((len(base), self.in_time(base.redo), len(base)), (0, [], 100))


class Example(unittest.TestCase):
    def test_example(self):
        base = Base(["red"], ["next"])
        base.define("led", "some z: (next(x, z) and red(z))", ["x"])
        self.assertEqual(
            [base.together([("add", 1), ("add", 2), ("put", ("link", "next", 1, 2))]), base.put(("mark", "red", 2)),
             base.count("led"), base.told("all x: red(x)")],
            [[], [("led", [(1,)], [])], 1, False])
        self.assertEqual(
            [base.take(("link", "next", 1, 2)), base.undo(), base.page("led", 0, 9), base.log()],
            [[("led", [], [(1,)])], [("led", [(1,)], [])], [(1,)], [
                ("together", [("add", 1), ("add", 2), ("put", ("link", "next", 1, 2))]), ("put", ("mark", "red", 2))]])
        self.assertEqual(
            [base.text(), read_base(base.text()) == base],
            ["marks red;\ncolumns next;\nitems 1, 2;\nnext(1, 2);\nred(2);\n"
             "ask led x: some z: (next(x, z) and red(z))\n", True])


if __name__ == "__main__":
    unittest.main()
