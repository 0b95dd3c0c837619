"""Point [8]: single edits."""

import copy
import unittest

from samples import MOST, Checks, full_store, junk, small_stores, stores_for_any_use

from depthquestions.deeds import done, with_fact, with_item, without_fact, without_item
from depthquestions.errors import InvalidFact, InvalidItem, InvalidList, InvalidStore, TooMany
from depthquestions.stores import is_store, store_of

STORE = ("store", ["red"], ["next"], [1, 2, 4], [("link", "next", 1, 2), ("link", "next", 2, 4), ("mark", "red", 1)])
NO_FACTS = [
    ("mark", "red", 3), ("mark", "blue", 1), ("mark", "next", 1), ("mark", "red", True), ("link", "next", True, 2),
    ("link", "next", 4, 3), ("link", "red", 4, 1), ("link", "next", 4), ("link", "next", 4, 1, 1), ["mark", "red", 2],
    ("mark", "red", [2]), None, True, 1, "mark", (), [], {}]
NO_NUMBERS = [-1, MOST + 1, 10 ** 29, True, False, None, "3", [3], (3,), {}]


def all_facts(store):
    _, marks, columns, items, _ = store
    facts = [("mark", mark, item) for mark in marks for item in items]
    return facts + [("link", column, one, other) for column in columns for one in items for other in items]


class Edits(Checks, unittest.TestCase):
    def made(self, call, *given):
        """What an edit makes; it changes nothing that was handed in, and all its lists are new."""
        before = copy.deepcopy(given)
        result = call(*given)
        self.assert_same(before, given)
        self.assertTrue(is_store(result))
        self.assert_new_lists(result, *given)
        return result

    def test_each_fact_of_many_stores(self):
        for store in stores_for_any_use() + small_stores():
            for fact in all_facts(store):
                more = (*store[:4], sorted([*store[4], fact]))
                less = (*store[:4], [other for other in store[4] if other != fact])
                if fact in store[4]:
                    self.assert_same(self.made(without_fact, store, fact), less)
                    self.fails(InvalidFact, fact, with_fact, store, fact)
                    self.assert_same(with_fact(less, fact), store)
                else:
                    self.fails(InvalidFact, fact, without_fact, store, fact)
                    if is_store(more):
                        self.assert_same(self.made(with_fact, store, fact), more)
                    else:
                        self.fails(InvalidFact, fact, with_fact, store, fact)

    def test_facts_by_name(self):
        fact = ("link", "next", 4, 1)
        more = with_fact(fact=fact, store=STORE)
        self.assertEqual(more[4][2], fact)
        self.assertEqual(without_fact(fact=fact, store=more), STORE)

    def test_no_facts(self):
        for fact in NO_FACTS:
            self.fails(InvalidFact, fact, with_fact, STORE, fact)
            self.fails(InvalidFact, fact, without_fact, STORE, fact)

    def test_second_links(self):
        for fact in [("link", "next", 1, 1), ("link", "next", 1, 4), ("link", "next", 4, 2), ("link", "next", 2, 1)]:
            self.fails(InvalidFact, fact, with_fact, STORE, fact)
        loose = with_fact(STORE, ("link", "next", 4, 1))
        self.fails(InvalidFact, STORE[4][0], with_fact, loose, STORE[4][0])
        two = store_of([], ["a", "b"], [1, 2], [("link", "a", 1, 2)])
        self.assertEqual(len(with_fact(two, ("link", "b", 1, 2))[4]), 2)

    def test_items_more(self):
        for item in [0, 3, 5, MOST]:
            result = self.made(with_item, STORE, item)
            self.assert_same(result, (*STORE[:3], sorted([1, 2, 4, item]), STORE[4]))
            self.assert_same(self.made(without_item, result, item), STORE)
        self.assertEqual(with_item(item=7, store=("store", [], [], [], [])), ("store", [], [], [7], []))

    def test_items_wrong(self):
        for item in NO_NUMBERS + [1, 2, 4]:
            self.fails(InvalidItem, item, with_item, STORE, item)
        for item in NO_NUMBERS + [0, 3, 1, 2, 4]:
            self.fails(InvalidItem, item, without_item, STORE, item)

    def test_item_in_some_fact(self):
        store = store_of(["red"], ["next"], [0, 1, 2, 3, 4], [
            ("mark", "red", 0), ("link", "next", 1, 2), ("link", "next", 3, 3)])
        for item in [0, 1, 2, 3]:
            self.fails(InvalidItem, item, without_item, store, item)
        self.assertEqual(without_item(item=4, store=store)[3], [0, 1, 2, 3])

    def test_too_many(self):
        store = ("store", [], [], list(range(1, 2001)), [])
        self.fails(InvalidItem, 5, with_item, store, 5)
        self.fails(InvalidItem, -1, with_item, store, -1)
        self.fails_with(TooMany, 2001, with_item, store, 0)
        self.fails_with(TooMany, 2001, done, store, [("drop", 7), ("add", 0), ("add", 7)])
        self.assertEqual(with_item(without_item(store, 7), 0)[3][:8], [0, 1, 2, 3, 4, 5, 6, 8])

    def test_no_store(self):
        for wrong in junk():
            for call in [with_fact, without_fact, with_item, without_item, done]:
                self.fails(InvalidStore, wrong, call, wrong, None)


class Done(Checks, unittest.TestCase):
    def test_one_after_the_other(self):
        edits = [("take", ("link", "next", 2, 4)), ("drop", 4), ("add", 9), ("put", ("link", "next", 2, 9)),
                 ("take", ("mark", "red", 1)), ("put", ("mark", "red", 9)), ("add", 4), ("drop", 4)]
        before = copy.deepcopy((STORE, edits))
        result = done(STORE, edits)
        self.assertEqual(before, (STORE, edits))
        self.assert_same(result, ("store", ["red"], ["next"], [1, 2, 9], [
            ("link", "next", 1, 2), ("link", "next", 2, 9), ("mark", "red", 9)]))
        self.assert_new_lists(result, STORE, edits)
        self.assertEqual(done(edits=edits, store=STORE), result)

    def test_as_single_edits(self):
        for store in stores_for_any_use():
            self.assertEqual(done(store, [("add", 77)]), with_item(store, 77))
            for fact in store[4]:
                self.assertEqual(done(store, [("take", fact)]), without_fact(store, fact))
                self.assertEqual(done(store, [("take", fact), ("put", fact)]), store)

    def test_none(self):
        for store in stores_for_any_use():
            result = done(store, [])
            self.assert_same(result, store)
            self.assert_new_lists(result, store)

    def test_no_lists_of_edits(self):
        good = ("add", 9)
        for edits in [(), (good,), None, {}, good, "add", 1, True]:
            self.fails(InvalidList, edits, done, STORE, edits)
        for edit in [["add", 9], ("add",), ("add", 9, 9), ("adds", 9), ("together", []), (["add"], 9), ("", 9), (),
                     None, "ad", (None, 9), (True, 1), ({}, 9), ("ADD", 9), (("add",), 9)]:
            edits = [("drop", 7), edit]
            self.fails(InvalidList, edits, done, STORE, edits)

    def test_first_that_cannot_be_made(self):
        ahead = [("add", 9), ("put", ("mark", "red", 9))]
        for fact in NO_FACTS:
            self.fails(InvalidFact, fact, done, STORE, [*ahead, ("put", fact), ("drop", 77)])
            self.fails(InvalidFact, fact, done, STORE, [*ahead, ("take", fact), ("drop", 77)])
        for item in NO_NUMBERS:
            self.fails(InvalidItem, item, done, STORE, [*ahead, ("add", item), ("put", None)])
            self.fails(InvalidItem, item, done, STORE, [*ahead, ("drop", item), ("put", None)])
        self.fails(InvalidItem, 9, done, STORE, [*ahead, ("drop", 9)])
        self.fails(InvalidItem, 9, done, STORE, [*ahead, ("add", 9)])
        self.fails(InvalidFact, ahead[1][1], done, STORE, [*ahead, ahead[1]])
        self.fails(InvalidFact, ahead[1][1], done, STORE, ahead[::-1])

    def test_two_hundred_in_a_full_store(self):
        store = full_store()
        facts = store[4][::140][:50]
        edits = [edit for fact in facts for edit in (("take", fact), ("put", fact))]
        items = list(range(50))
        lean = ("store", store[1], store[2], store[3][50:], [])
        self.assertEqual(self.in_time(done, store, edits * 2), store)
        added = [("add", item) for item in items] + [("drop", item) for item in items]
        self.assertEqual(self.in_time(done, lean, added * 2), lean)


class Example(unittest.TestCase):
    def test_example(self):
        link = ("link", "next", 4, 1)
        self.assertEqual(
            [with_fact(STORE, link)[4][2],
             done(STORE, [("take", ("link", "next", 2, 4)), ("drop", 4), ("add", 9)])[3]],
            [("link", "next", 4, 1), [1, 2, 9]])


if __name__ == "__main__":
    unittest.main()
