"""Points [39] to [43]: answers kept through edits."""

import copy
import random
import unittest
from itertools import product

from samples import MOST, Checks, chained, distances_of, junk, pieces_store, random_stores, reading, stores_for_any_use
from test_answers import LINE, NO_NAMES, NO_NUMBERS, asked, no_rows
from test_deeds import NO_FACTS, all_facts
from test_deeds import NO_NUMBERS as NO_NEW_ITEMS
from test_deeds import STORE as SMALL
from test_plain import NO_ITEMS, NO_QUESTIONS_OF_STORE

from depthquestions.answers import beginning, how_many, is_answer, next_answer, number_of, numbered, page
from depthquestions.codes import code_of, types
from depthquestions.deeds import done
from depthquestions.errors import (
    InvalidFact, InvalidItem, InvalidList, InvalidNumber, InvalidQuestion, InvalidStore, NothingToRedo, NothingToUndo,
    StoreError, TooMany)
from depthquestions.kept import Kept
from depthquestions.questions import depth
from depthquestions.radii import radius
from depthquestions.stores import store_of
from depthquestions.texts import read_question

TRUE, RED, NEXT = ("true",), ("mark", "red", "x"), ("link", "next", "x", "y")
LED = ("some", "z", ("and", ("link", "next", "x", "z"), ("mark", "red", "z")))
WORDS = {"put": "put_in", "take": "take_out", "add": "add", "drop": "drop"}
NO_EDITS = [None, True, 3, "put", (), ("put",), ("put", 1, 2), ["put", 1], ("make", 1), (1, 2), (None, 1), [], {},
            (["put"], 1), [("add", 9)], ("Put", 1)]


def do(kept, edit):
    return getattr(kept, WORDS[edit[0]])(edit[1])


def random_edit(chance, store, most=30):
    """An edit that can be made in a store."""
    _, marks, columns, items, facts = store
    while True:
        word = chance.choice(["put", "put", "put", "take", "take", "add", "drop"])
        if word == "add":
            return ("add", chance.choice([item for item in range(most) if item not in items] + [most + len(items)]))
        if word == "drop":
            lone = [item for item in items if not any(item in fact[2:] for fact in facts)]
            if lone and chance.random() < 0.5:
                return ("drop", chance.choice(lone))
        if word == "take" and facts:
            return ("take", chance.choice(facts))
        if word == "put" and items and marks + columns:
            sign = chance.choice(marks + columns)
            fact = ("mark", sign, chance.choice(items)) if sign in marks else (
                "link", sign, chance.choice(items), chance.choice(items))
            try:
                done(store, [("put", fact)])
            except InvalidFact:
                continue
            return ("put", fact)


def codes_of(store, deep):
    return {item: code_of(store, (item,), radius(deep)) for item in store[3]}


def near_items(store, items, reach):
    known = distances_of(store)
    return {item for item in store[3] if any(known.get((item, one), 10 ** 9) <= reach for one in items)}


def told_typed(before, after, edit, deep):
    """How many codes an edit reckons, by the words of the document."""
    word, value = edit
    if word in ("add", "drop"):
        return 1 if word == "add" else 0
    reach = radius(deep)
    return len(near_items(before, value[2:], reach) | near_items(after, value[2:], reach))


def back(edit):
    return ({"put": "take", "take": "put", "add": "drop", "drop": "add"}[edit[0]], edit[1])


class KeptChecks(Checks):
    def refused(self, error, value, kept, call, *given):
        """A call raises an error with the value itself, and changes nothing."""
        before = (kept.store(), kept.log(), kept.typed(), kept.type_counts())
        self.fails(error, value, call, *given)
        self.assert_same(before, (kept.store(), kept.log(), kept.typed(), kept.type_counts()))

    def stands(self, kept, store, deep):
        """What is kept is this store, with its codes."""
        self.assert_same(kept.store(), store)
        codes = codes_of(store, deep)
        for item in store[3]:
            self.assert_same(kept.type_of(item), codes[item])
        self.assert_same(kept.type_counts(), [(code, len(items)) for code, items in types(store, radius(deep))])

    def changes(self, kept, call, given, edit):
        """A call makes an edit: it tells the items whose code is another one, and counts what it reckons."""
        before, deep, typed = kept.store(), kept.deepest(), kept.typed()
        after = done(before, [edit])
        old, new = codes_of(before, deep), codes_of(after, deep)
        found = call(*given)
        self.assert_same(found, [item for item in after[3] if old.get(item) != new[item]])
        self.assertEqual(kept.typed(), typed + told_typed(before, after, edit, deep))
        self.stands(kept, after, deep)


class Holding(KeptChecks, unittest.TestCase):
    def test_at_the_beginning(self):
        for store in stores_for_any_use() + random_stores(240, 20, 8):
            for deep in range(2 if len(store[2]) == 2 else 3):
                before = copy.deepcopy(store)
                kept = Kept(depth=deep, store=store)
                self.assert_same(kept.deepest(), deep)
                self.assertEqual(kept.typed(), len(store[3]))
                self.stands(kept, store, deep)
                self.assert_new_lists([kept.store(), kept.store(), kept.log(), kept.type_counts()], store)
                self.assert_same(store, before)

    def test_what_is_handed_in_is_not_kept(self):
        store = copy.deepcopy(SMALL)
        kept = Kept(store, 1)
        for rows in [store[1], store[2], store[3], store[4], kept.store()[3], kept.store()[4], kept.type_counts()]:
            rows.clear()
        kept.log().append(("add", 3))
        self.stands(kept, SMALL, 1)
        self.assertEqual(kept.log(), [])

    def test_errors(self):
        for wrong in junk():
            self.fails(InvalidStore, wrong, Kept, wrong, -1)
        for wrong in [-1, 3, True, False, None, "1", (1,), [1], {}, 10 ** 29]:
            self.fails(InvalidNumber, wrong, Kept, SMALL, wrong)
        kept = Kept(LINE, 1)
        for wrong in [item for item in NO_ITEMS if item != 5] + [7]:
            self.refused(InvalidItem, wrong, kept, kept.type_of, wrong)


class Edits(KeptChecks, unittest.TestCase):
    def test_walks(self):
        chance = random.Random(241)
        for at, store in enumerate(random_stores(242, 36, 8)):
            deep = at % (2 if len(store[2]) == 2 else 3)
            kept = Kept(store, deep)
            made, taken = [], []
            for _ in range(25):
                if made and chance.random() < 0.25:
                    taken.append(made.pop())
                    self.changes(kept, kept.undo, (), back(taken[-1]))
                elif taken and chance.random() < 0.5:
                    made.append(taken.pop())
                    self.changes(kept, kept.redo, (), made[-1])
                else:
                    edit, taken = random_edit(chance, kept.store()), []
                    made.append(edit)
                    self.changes(kept, getattr(kept, WORDS[edit[0]]), (edit[1],), edit)
                self.assert_same(kept.log(), made)

    def test_long_paths(self):
        store = chained(40, marked=[20])
        for deep, reach in [(0, 0), (1, 1), (2, 4)]:
            kept = Kept(store, deep)
            self.changes(kept, kept.take_out, (("link", "next", 19, 20),), ("take", ("link", "next", 19, 20)))
            self.assertEqual(kept.typed(), 40 + 2 * reach + 2)
            self.changes(kept, kept.put_in, (("link", "next", 39, 20),), ("put", ("link", "next", 39, 20)))
            self.changes(kept, kept.put_in, (("mark", "red", 5),), ("put", ("mark", "red", 5)))
            self.changes(kept, kept.add, (99,), ("add", 99))
            self.changes(kept, kept.put_in, (("link", "next", 99, 99),), ("put", ("link", "next", 99, 99)))
            self.changes(kept, kept.undo, (), ("take", ("link", "next", 99, 99)))
            self.changes(kept, kept.drop, (99,), ("drop", 99))

    def test_edits_that_change_no_code(self):
        kept = Kept(("store", [], ["next"], [1, 2], []), 0)
        self.assertEqual([kept.put_in(("link", "next", 1, 2)), kept.typed()], [[], 4])
        self.assertEqual([kept.take_out(("link", "next", 1, 2)), kept.typed()], [[], 6])
        self.assertEqual([kept.put_in(("link", "next", 1, 1)), kept.typed()], [[1], 7])
        self.assertEqual([kept.add(0), kept.typed(), kept.drop(0), kept.typed()], [[0], 8, [], 8])
        self.assertEqual([kept.undo(), kept.typed(), kept.undo(), kept.typed()], [[0], 9, [], 9])

    def test_by_name(self):
        kept = Kept(SMALL, 1)
        self.assertEqual(kept.put_in(fact=("mark", "red", 2)), [1, 2, 4])
        self.assertEqual(kept.take_out(fact=("mark", "red", 2)), [1, 2, 4])
        self.assertEqual([kept.add(item=0), kept.type_of(item=0), kept.drop(item=0)], [[0], ((0,), (((0,), -1, -1),)), []])

    def test_errors(self):
        kept = Kept(SMALL, 2)
        kept.put_in(("mark", "red", 4))
        kept.add(9)
        kept.undo()
        for wrong in [*NO_FACTS, ("mark", "red", 1), ("link", "next", 1, 4), ("link", "next", 4, 4)]:
            self.refused(InvalidFact, wrong, kept, kept.put_in, wrong)
        for wrong in [*NO_FACTS, ("link", "next", 4, 1), ("mark", "red", 2)]:
            self.refused(InvalidFact, wrong, kept, kept.take_out, wrong)
        for wrong in [*NO_NEW_ITEMS, 1, 4]:
            self.refused(InvalidItem, wrong, kept, kept.add, wrong)
        for wrong in [*NO_NEW_ITEMS, 1, 2, 3]:
            self.refused(InvalidItem, wrong, kept, kept.drop, wrong)
        self.assertEqual(kept.redo(), [9])

    def test_too_many_items(self):
        kept = Kept(("store", [], [], list(range(2000)), []), 0)
        with self.assertRaises(TooMany) as caught:
            kept.add(2000)
        self.assertEqual([caught.exception.value, len(kept.store()[3]), kept.log(), kept.typed()], [2001, 2000, [], 2000])
        self.fails(InvalidItem, 7, kept.add, 7)

    def test_each_fact(self):
        for store in stores_for_any_use()[3:]:
            for fact in all_facts(store):
                kept = Kept(store, 1)
                if fact in store[4]:
                    self.changes(kept, kept.take_out, (fact,), ("take", fact))
                else:
                    try:
                        done(store, [("put", fact)])
                    except InvalidFact:
                        self.refused(InvalidFact, fact, kept, kept.put_in, fact)
                        continue
                    self.changes(kept, kept.put_in, (fact,), ("put", fact))


class Asking(KeptChecks, unittest.TestCase):
    def all_alike(self, chance, kept, question, names):
        """Each method tells what the functions of [36] and [37] tell for the store as it is."""
        store = kept.store()
        many = how_many(store, question, names)
        self.assert_same(kept.count(question, names), many)
        rows = list(product(store[3], repeat=len(names)))
        for row in chance.sample(rows, min(4, len(rows))):
            self.assert_same(kept.has(question, names, row), is_answer(store, question, names, row))
            self.assert_same(kept.rank(question, names, row), number_of(store, question, names, row))
            self.assert_same(kept.behind(question, names, row), next_answer(store, question, names, row))
            self.assert_same(kept.begun(question, names, row[0]), beginning(store, question, names, row[0]))
        if many:
            number = chance.randrange(many)
            self.assert_same(kept.at(question, names, number), numbered(store, question, names, number))
            self.assert_same(kept.pages(question, names, number, 5), page(store, question, names, number, 5))
        self.assert_same(kept.pages(question, names, 0, 1000), [
            row for row in rows if reading(store, question, dict(zip(names, row)))][:1000])
        self.assert_new_lists([kept.pages(question, names, 0, 1000), kept.pages(question, names, 0, 1000)])

    def test_walks(self):
        chance = random.Random(243)
        for columns in range(3):
            stores = [store for store in random_stores(244, 90, 6) if len(store[2]) == columns and len(store[1]) == 2]
            for store in stores[:8]:
                deep = 1 if columns == 2 else 2
                questions = [row for row in asked(250 + columns, 90, columns, size=12)
                             if depth(row[0]) <= deep and set(store[2]) == set(["next", "up"][:columns])]
                kept = Kept(store, deep)
                for _ in range(12):
                    do(kept, random_edit(chance, kept.store()))
                    for question, names in chance.sample(questions, min(3, len(questions))):
                        self.all_alike(chance, kept, question, names)
                    if chance.random() < 0.3:
                        kept.undo()

    def test_edits_far_away(self):
        kept = Kept(chained(20), 2)
        some = read_question("red(x) or some z: (red(z) and not next(x, z))")
        self.assertEqual(kept.count(some, ["x"]), 0)
        self.assertEqual(kept.put_in(("mark", "red", 19)), [15, 16, 17, 18, 19])
        self.assertEqual(kept.pages(some, ["x"], 0, 99), [(item,) for item in range(20) if item != 18])
        self.assertEqual(kept.undo(), [15, 16, 17, 18, 19])
        self.assertEqual(kept.count(some, ["x"]), 0)
        two = read_question("some z: some u: (red(z) and red(u) and not z = u and not z = x and not u = x)")
        for item in [5, 9]:
            self.assertIs(kept.has(two, ["x"], (0,)), False)
            kept.put_in(("mark", "red", item))
        self.assertIs(kept.has(two, ["x"], (0,)), True)
        self.assertIs(kept.has(two, ["x"], (9,)), False)

    def test_by_name(self):
        kept = Kept(LINE, 1)
        self.assertEqual(kept.count(names=["x"], question=LED), 2)
        self.assertIs(kept.has(value=(1,), names=["x"], question=LED), True)
        self.assertEqual(kept.rank(row=(2,), names=["x"], question=LED), 1)
        self.assertEqual(kept.at(number=1, names=["x"], question=LED), (4,))
        self.assertEqual(kept.pages(many=1, number=0, names=["x"], question=LED), [(1,)])
        self.assertEqual(kept.behind(row=(1,), names=["x"], question=LED), (4,))
        self.assertEqual(kept.begun(item=4, names=["x"], question=LED), 1)
        self.assertEqual(kept.gained(edit=("put", ("mark", "red", 3)), names=["x"], question=LED), [(2,)])
        self.assertEqual(kept.lost(edit=("take", ("mark", "red", 2)), names=["x"], question=LED), [(1,)])

    def test_pages_are_new(self):
        kept = Kept(LINE, 1)
        kept.pages(RED, ["x"], 0, 9).append((9,))
        self.assertEqual(kept.pages(RED, ["x"], 0, 9), [(2,), (5,)])
        kept.lost(RED, ["x"], ("take", ("mark", "red", 2))).append((9,))
        self.assertEqual(kept.count(RED, ["x"]), 2)

    def test_same_question_behind_an_edit(self):
        kept = Kept(LINE, 1)
        self.assertEqual([kept.count(LED, ["x"]), kept.take_out(("mark", "red", 2)), kept.count(LED, ["x"])],
                         [2, [1, 2, 3], 1])
        self.assertEqual([kept.count(RED, ["x"]), kept.count(RED, ["x", "y"]), kept.count(RED, ["y", "x"])], [1, 6, 6])
        self.assertEqual([kept.pages(RED, ["y", "x"], 0, 1), kept.pages(RED, ["x", "y"], 0, 1)], [[(1, 5)], [(5, 1)]])

    def test_errors_in_order(self):
        for deep in range(3):
            kept = Kept(LINE, deep)
            nested = RED
            for at in range(deep + 1):
                nested = ("some", f"u{at}", nested)
            calls = [(kept.count,), (kept.has, None), (kept.rank, None), (kept.at, None), (kept.pages, None, None),
                     (kept.behind, None), (kept.begun, None), (kept.gained, None), (kept.lost, None)]
            for call, *rest in calls:
                for wrong in junk() + NO_QUESTIONS_OF_STORE + [nested, ("not", nested), ("and", RED, nested)]:
                    self.refused(InvalidQuestion, wrong, kept, call, wrong, None, *rest)
                for wrong in NO_NAMES:
                    self.refused(InvalidList, wrong, kept, call, RED, wrong, *rest)
        kept = Kept(LINE, 2)
        self.assertEqual(kept.count(("some", "u", ("some", "v", RED)), ["x"]), 2)
        for names in [["x"], ["x", "y"]]:
            for wrong in no_rows(len(names)):
                self.refused(InvalidItem, wrong, kept, kept.rank, TRUE, names, wrong)
                self.refused(InvalidItem, wrong, kept, kept.behind, TRUE, names, wrong)
                self.assertIs(kept.has(TRUE, names, wrong), False)
        for wrong in [item for item in NO_ITEMS if item != 5]:
            self.refused(InvalidItem, wrong, kept, kept.begun, TRUE, ["x"], wrong)
        for wrong in [*NO_NUMBERS, 2]:
            self.refused(InvalidNumber, wrong, kept, kept.at, RED, ["x"], wrong)
        for wrong in [*NO_NUMBERS, 3]:
            self.refused(InvalidNumber, wrong, kept, kept.pages, RED, ["x"], wrong, -1)
        for wrong in [*NO_NUMBERS, 1001]:
            self.refused(InvalidNumber, wrong, kept, kept.pages, RED, ["x"], 2, wrong)


class GainedAndLost(KeptChecks, unittest.TestCase):
    def told(self, kept, question, names, edit):
        store, log, typed = kept.store(), kept.log(), kept.typed()
        after = done(store, [edit])
        ahead, behind = [
            [row for row in product(each[3], repeat=len(names)) if reading(each, question, dict(zip(names, row)))]
            for each in (store, after)]
        gained, lost = kept.gained(question, names, edit), kept.lost(question, names, edit)
        self.assert_same(gained, [row for row in behind if row not in ahead])
        self.assert_same(lost, [row for row in ahead if row not in behind])
        self.assert_same((kept.store(), kept.log(), kept.typed()), (store, log, typed))
        return len(gained), len(lost)

    def test_many(self):
        chance = random.Random(246)
        found = []
        for columns in range(3):
            names_of = ["next", "up"][:columns]
            stores = [store for store in random_stores(247, 200, 6)
                      if set(store[2]) == set(names_of) and len(store[1]) == 2]
            deep = 1 if columns == 2 else 2
            questions = [row for row in asked(260 + columns, 80, columns, size=12) if depth(row[0]) <= deep]
            for store in stores[:20]:
                kept = Kept(store, deep)
                for question, names in chance.sample(questions, 12):
                    found.append(self.told(kept, question, names, random_edit(chance, store)))
        self.assertGreater(len([row for row in found if row[0]]), 20)
        self.assertGreater(len([row for row in found if row[1]]), 20)

    def test_items_added_and_dropped(self):
        kept = Kept(LINE, 2)
        every = read_question("all z: (z = x or red(z) or some u: (next(u, z) or next(z, u)))")
        self.assertEqual(self.told(kept, every, ["x"], ("add", 0)), (0, 1))
        self.assertEqual(self.told(kept, every, ["x"], ("drop", 6)), (5, 1))
        self.assertEqual(self.told(kept, TRUE, ["x", "y"], ("add", 0)), (13, 0))
        self.assertEqual(self.told(kept, TRUE, ["x", "y"], ("drop", 6)), (0, 11))

    def test_too_many(self):
        for many in [1000, 1001]:
            kept = Kept(("store", [], [], list(range(many)), []), 0)
            self.fails_with(TooMany, 2 * many + 1, kept.gained, TRUE, ["x", "y"], ("add", 5000))
            if many == 1000:
                self.assertEqual(len(kept.lost(TRUE, ["x", "y"], ("drop", 0))), 1999)
            else:
                self.fails_with(TooMany, 2001, kept.lost, TRUE, ["x", "y"], ("drop", 0))
            self.assertEqual((kept.log(), kept.typed(), len(kept.store()[3])), ([], many, many))
        kept = Kept(("store", [], [], list(range(999)), []), 0)
        self.assertEqual(len(kept.gained(TRUE, ["x", "y"], ("add", 5000))), 1999)

    def test_just_not_too_many(self):
        kept = Kept(("store", ["red"], [], list(range(400)), []), 1)
        five = ("and", ("some", "z", ("mark", "red", "z")), ("true",))
        self.assertEqual(len(kept.gained(five, ["x"], ("put", ("mark", "red", 3)))), 400)
        for many, error in [(44, None), (45, 2025)]:
            kept = Kept(("store", ["red"], [], list(range(many)), []), 1)
            edit = ("put", ("mark", "red", 3))
            if error is None:
                self.assertEqual(len(kept.gained(five, ["x", "y"], edit)), many * many)
                kept.put_in(edit[1])
                self.assertEqual(len(kept.lost(five, ["x", "y"], ("take", edit[1]))), many * many)
            else:
                self.fails_with(TooMany, error, kept.gained, five, ["x", "y"], edit)
                kept.put_in(edit[1])
                self.fails_with(TooMany, error, kept.lost, five, ["x", "y"], ("take", edit[1]))

    def test_errors_in_order(self):
        kept = Kept(SMALL, 1)
        for call in [kept.gained, kept.lost]:
            for wrong in NO_EDITS:
                self.refused(InvalidList, wrong, kept, call, RED, ["x"], wrong)
            for wrong in [*NO_FACTS, ("mark", "red", 1), ("link", "next", 1, 4)]:
                self.refused(InvalidFact, wrong, kept, call, RED, ["x"], ("put", wrong))
            for wrong in [*NO_FACTS, ("mark", "red", 4)]:
                self.refused(InvalidFact, wrong, kept, call, RED, ["x"], ("take", wrong))
            for wrong in [*NO_NEW_ITEMS, 1]:
                self.refused(InvalidItem, wrong, kept, call, RED, ["x"], ("add", wrong))
            for wrong in [*NO_NEW_ITEMS, 1, 3]:
                self.refused(InvalidItem, wrong, kept, call, RED, ["x"], ("drop", wrong))


class UndoAndRedo(KeptChecks, unittest.TestCase):
    def test_in_every_order(self):
        edits = [("add", 9), ("put", ("mark", "red", 9)), ("take", ("link", "next", 1, 2))]
        for steps in product("eur", repeat=6):
            kept = Kept(SMALL, 1)
            made, taken, number = [], [], 0
            for step in steps:
                if step == "e" and number < 3:
                    try:
                        do(kept, edits[number])
                    except StoreError:
                        done_now = False
                    else:
                        done_now = True
                        made.append(edits[number])
                        taken = []
                    if done_now:
                        number += 1
                elif step == "u":
                    if made:
                        taken.append(made.pop())
                        kept.undo()
                    else:
                        self.assertRaises(NothingToUndo, kept.undo)
                elif step == "r":
                    if taken:
                        made.append(taken.pop())
                        kept.redo()
                    else:
                        self.assertRaises(NothingToRedo, kept.redo)
                self.assert_same(kept.log(), made)
                self.assert_same(kept.store(), done(SMALL, made))

    def test_refused_edits_do_not_stand_in_the_way(self):
        kept = Kept(SMALL, 1)
        kept.add(0)
        kept.undo()
        self.fails(InvalidItem, 1, kept.add, 1)
        self.assertRaises(NothingToUndo, kept.undo)
        kept.gained(RED, ["x"], ("put", ("mark", "red", 2)))
        self.assertEqual(kept.redo(), [0])
        self.assertRaises(NothingToRedo, kept.redo)
        kept.undo()
        kept.add(3)
        self.assertRaises(NothingToRedo, kept.redo)
        self.assertEqual(kept.log(), [("add", 3)])

    def test_copies(self):
        kept = Kept(SMALL, 2)
        kept.put_in(("mark", "red", 2))
        kept.add(9)
        kept.undo()
        other = kept.copy()
        self.assertIs(type(other), Kept)
        told = lambda each: (each.store(), each.deepest(), each.log(), each.typed(), each.type_counts())
        self.assert_same(told(kept), told(other))
        self.assertEqual(kept, other)
        before = told(kept)
        self.assertEqual(other.redo(), [9])
        other.put_in(("link", "next", 9, 1))
        self.assertEqual(other.count(NEXT, ["x", "y"]), 3)
        self.assert_same(told(kept), before)
        self.assertEqual(kept.count(NEXT, ["x", "y"]), 2)
        self.assertNotEqual(kept, other)
        copied = told(other)
        self.assertEqual(kept.redo(), [9])
        kept.undo()
        kept.undo()
        kept.undo() if kept.log() else None
        self.assert_same(told(other), copied)

    def test_equality(self):
        one, other = Kept(SMALL, 1), Kept(copy.deepcopy(SMALL), 1)
        self.assertTrue(one == other and not one != other)
        other.add(9)
        self.assertTrue(one != other and not one == other)
        other.undo()
        self.assertTrue(one == other)
        self.assertFalse(one == Kept(SMALL, 2) or one == Kept(LINE, 1))
        for value in [*junk(), SMALL, SMALL[3]]:
            self.assertIs(one == value, False)
            self.assertIs(one != value, True)
        self.assertTrue(Kept(("store", [], [], [], []), 0) == Kept(("store", [], [], [], []), 0))
        self.assertFalse(Kept(("store", ["a"], [], [], []), 0) == Kept(("store", [], ["a"], [], []), 0))


class Limits(KeptChecks, unittest.TestCase):
    def test_great_stores(self):
        store = pieces_store(3, 400, 17)
        kept = self.in_time(Kept, store, 2)
        question = read_question(
            "all z: some w: ((next(z, w) or next(w, z) or w = x or next(x, w) or w = y or next(y, w) or red(w)) and"
            " (not next(w, x) or not next(z, y) or not red(w) or next(z, w)) and not w = z and not w = y)")
        names = ["x", "y"]
        for edit in [("add", 1000), ("put", ("mark", "red", 1000)), ("put", ("link", "next", 1000, 1000))]:
            self.in_time(do, kept, edit)
            many = self.in_time(kept.count, question, names)
            self.assertIs(self.in_time(kept.has, question, names, (1, 2)), is_answer(kept.store(), question, names, (1, 2)))
            row = (200, 0)
            rank = self.in_time(kept.rank, question, names, row)
            if many:
                self.assertEqual(self.in_time(kept.at, question, names, many - 1),
                                 self.in_time(kept.pages, question, names, many - 1, 1000)[0])
            self.assertLessEqual(rank, many)
            self.in_time(kept.behind, question, names, row)
            self.in_time(kept.begun, question, names, 1000)
        fewer = read_question("some z: (red(z) and next(z, x) and next(y, z) and some w: (next(w, y) and not w = x))")
        gained = self.in_time(kept.gained, fewer, names, ("take", ("link", "next", 1000, 1000)))
        self.assertEqual(gained, [])
        self.assertEqual(self.in_time(kept.lost, fewer, names, ("take", ("link", "next", 1000, 1000))), [])
        self.stands(kept, kept.store(), 2)

    def test_numbers_at_the_bounds(self):
        kept = Kept(store_of(["a" * 30], ["b" * 30], [0, MOST], [("link", "b" * 30, 0, MOST)]), 2)
        self.assertEqual(kept.put_in(("link", "b" * 30, MOST, 0)), [0, MOST])
        self.assertEqual(kept.at(("link", "b" * 30, "x", "y"), ["x", "y"], 1), (MOST, 0))


class Example(unittest.TestCase):
    def test_example(self):
        kept = Kept(LINE, 1)
        led = LED
        self.assertEqual(
            [kept.put_in(("link", "next", 3, 4)), kept.count(led, ["x"]), kept.take_out(("mark", "red", 2)),
             kept.count(led, ["x"]), kept.typed()],
            [[3, 4], 2, [1, 2, 3], 1, 13])
        self.assertEqual(
            [kept.gained(led, ["x"], ("put", ("mark", "red", 3))), kept.undo(), kept.count(led, ["x"]), kept.log(),
             kept.type_of(6), kept.type_counts() == Kept(kept.store(), 1).type_counts()],
            [[(2,)], [1, 2, 3], 2, [("put", ("link", "next", 3, 4))], ((0,), (((0,), -1, -1),)), True])


if __name__ == "__main__":
    unittest.main()
