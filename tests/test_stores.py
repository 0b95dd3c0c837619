"""Points [3], [4], [6] and [7]: stores."""

import copy
import itertools
import random
import unittest

from samples import MOST, RESERVED, Checks, full_store, junk, small_stores, stores_for_any_use

from depthquestions.errors import InvalidFact, InvalidItem, InvalidList, InvalidName, InvalidStore, TooMany
from depthquestions.stores import facts_of, is_store, led_from, led_to, store_of

WRONG_WORDS = ["", "Red", "9red", "a" * 31, "re_d", None, 1, True, ["red"], ("red",), *RESERVED]
WRONG_NUMBERS = [-1, MOST + 1, 10 ** 29, True, False, None, "1", [1], (1,)]
WRONG_FACTS = [
    ("mark", "red", 3), ("mark", "next", 1), ("mark", "blue", 1), ("mark", "red", True), ("mark", "red", None),
    ("mark", "red", "1"), ("mark", "red"), ("mark", "red", 1, 1), ("mark", ["red"], 1), ["mark", "red", 1],
    ("link", "next", 1, 3), ("link", "next", 3, 1), ("link", "red", 1, 2), ("link", "up", 1, 2),
    ("link", "next", True, 2), ("link", "next", 2, True), ("link", "next", 1), ("link", "next", 1, 2, 2),
    ("link", ["next"], 1, 2), ["link", "next", 1, 2], ("link", "next", 1, [2]), ("link", "next", {}, 2),
    ("marks", "red", 1), ("red", 1), (["mark"], "red", 1), ("link", "red", 1), ("mark", "next", 1, 2),
    None, 1, "mark", (), [], {}, True]


class IsStore(Checks, unittest.TestCase):
    def judged(self, value, expected):
        before = copy.deepcopy(value)
        self.assertIs(is_store(value), expected, value)
        self.assert_like(before, value)

    def with_items(self, items, expected):
        self.judged(("store", ["red"], ["next"], items, []), expected)

    def with_facts(self, facts, expected):
        self.judged(("store", ["red"], ["next"], [1, 2], facts), expected)

    def test_stores(self):
        for store in stores_for_any_use() + small_stores():
            self.judged(store, True)
        self.assertIs(is_store(value=("store", [], [], [], [])), True)

    def test_forms(self):
        right = ("store", ["red"], ["next"], [1], [])
        self.judged(right, True)
        self.judged(list(right), False)
        for word in ["stores", "Store", "", None, ["store"], True, ("store",), 1]:
            self.judged((word, *right[1:]), False)
        self.judged(right[:4], False)
        self.judged((*right, []), False)
        self.judged((*right, None), False)
        for at in range(1, 5):
            for value in [tuple(right[at]), None, "a", {}, {1: 2}, 1, True, right]:
                self.judged((*right[:at], value, *right[at + 1:]), False)

    def test_any_value(self):
        for value in junk():
            self.judged(value, False)
            for at in range(1, 5):
                parts = ["store", [], [], [], []]
                parts[at] = value
                self.judged(tuple(parts), False)
                parts[at] = [value]
                self.judged(tuple(parts), at == 3 and value in (0, 1) and not isinstance(value, bool))

    def test_marks(self):
        self.judged(("store", ["a", "b", "c", "d"], [], [], []), True)
        self.judged(("store", ["d", "c", "b", "a"], [], [], []), True)
        self.judged(("store", ["a", "b", "c", "d", "e"], [], [], []), False)
        self.judged(("store", ["a", "b", "a"], [], [], []), False)
        for word in WRONG_WORDS:
            self.judged(("store", ["a", word], [], [], []), False)

    def test_columns(self):
        self.judged(("store", [], ["b", "a"], [], []), True)
        self.judged(("store", [], ["a", "b", "c"], [], []), False)
        self.judged(("store", [], ["a", "a"], [], []), False)
        self.judged(("store", ["a", "b"], ["c", "b"], [], []), False)
        for word in WRONG_WORDS:
            self.judged(("store", [], [word], [], []), False)

    def test_items(self):
        for items in [[0], [MOST], [0, MOST], list(range(2000)), list(range(MOST - 1999, MOST + 1))]:
            self.with_items(items, True)
        for items in [[2, 1], [1, 1], [0, 1, 3, 2], list(range(2001)), [0, 0]]:
            self.with_items(items, False)
        for value in WRONG_NUMBERS:
            self.with_items([value], False)
        self.with_items([0, True], False)
        self.with_items([False, 2], False)

    def test_facts(self):
        for facts in [[("mark", "red", 1)], [("link", "next", 1, 1)], [("link", "next", 1, 2), ("link", "next", 2, 1)],
                      [("link", "next", 1, 2), ("mark", "red", 1), ("mark", "red", 2)]]:
            self.with_facts(facts, True)
            self.with_facts(facts + facts, False)
            if len(facts) > 1:
                self.with_facts(facts[::-1], False)
        for fact in WRONG_FACTS:
            self.with_facts([fact], False)
            self.with_facts([("link", "next", 1, 1), fact], False)

    def test_one_to_one(self):
        self.with_facts([("link", "next", 1, 1), ("link", "next", 1, 2)], False)
        self.with_facts([("link", "next", 1, 2), ("link", "next", 2, 2)], False)
        self.with_facts([("link", "next", 1, 1), ("link", "next", 2, 2)], True)
        self.judged(("store", [], ["a", "b"], [1, 2], [("link", "a", 1, 2), ("link", "b", 1, 2)]), True)
        self.judged(("store", [], ["a", "b"], [1, 2, 3], [
            ("link", "a", 1, 2), ("link", "b", 1, 3), ("link", "b", 2, 3)]), False)

    def test_every_set_of_facts_of_two_items(self):
        facts = [("link", "next", one, other) for one in [1, 2] for other in [1, 2]]
        facts += [("mark", "red", 1), ("mark", "red", 2)]
        for many in range(len(facts) + 1):
            for chosen in itertools.combinations(facts, many):
                links = [fact for fact in chosen if fact[0] == "link"]
                right = all(one[2] != other[2] and one[3] != other[3]
                            for one, other in itertools.combinations(links, 2))
                self.with_facts(list(chosen), right)


class StoreOf(Checks, unittest.TestCase):
    def test_any_order(self):
        chance = random.Random(1)
        for store in stores_for_any_use():
            _, marks, columns, items, facts = store
            for _ in range(5):
                more_items = items + items[:2]
                more_facts = facts + facts[1:3]
                chance.shuffle(more_items)
                chance.shuffle(more_facts)
                self.assert_same(store_of(marks, columns, more_items, more_facts), store)

    def test_by_name(self):
        self.assertEqual(store_of(facts=[], items=[2, 1], columns=["up"], marks=["b", "a"]),
                         ("store", ["b", "a"], ["up"], [1, 2], []))

    def test_new_lists(self):
        marks, columns, items, facts = ["red"], ["next"], [1, 2], [("mark", "red", 1)]
        store = store_of(marks, columns, items, facts)
        kept = copy.deepcopy(store)
        self.assert_new_lists(store, marks, columns, items, facts)
        marks.append("blue")
        columns.clear()
        items[0] = 9
        facts.pop()
        self.assertEqual(store, kept)
        one = []
        self.assert_new_lists(store_of(one, one, one, one), one)

    def test_wrong_lists(self):
        right = [["red"], ["next"], [1, 2], []]
        wrong = [
            [[word] for word in WRONG_WORDS] + [["a", "a"], list("abcde"), ("red",), None, "red", {"red": 1}, 1],
            [[word] for word in WRONG_WORDS] + [["a", "a"], list("abc"), ["red"], ["up", "red"], ("next",), None, {}],
            [[1, value] for value in WRONG_NUMBERS] + [(1, 2), None, {1: 2}, 1, "12"],
            [(), None, {}, 1, "facts", True]]
        for at in range(4):
            for value in wrong[at]:
                given = [*right[:at], value, *right[at + 1:]]
                self.fails(InvalidList, value, store_of, *given)

    def test_order_of_errors(self):
        wrong = [["Red"], ["Next"], [-1], ()]
        self.fails(InvalidList, wrong[0], store_of, *wrong)
        self.fails(InvalidList, wrong[1], store_of, ["red"], *wrong[1:])
        self.fails(InvalidList, wrong[2], store_of, ["red"], ["next"], *wrong[2:])
        self.fails(InvalidList, wrong[3], store_of, ["red"], ["next"], list(range(3000)), wrong[3])
        self.fails_with(TooMany, 3000, store_of, ["red"], ["next"], list(range(3000)), [None])

    def test_too_many(self):
        self.assertEqual(len(store_of([], [], list(range(2000)) * 2, [])[3]), 2000)
        self.fails_with(TooMany, 2001, store_of, [], [], [*range(2001), *range(500)], [])
        self.fails_with(TooMany, 2003, store_of, [], [], list(range(2003)), [])

    def test_wrong_facts(self):
        for fact in WRONG_FACTS:
            self.fails(InvalidFact, fact, store_of, ["red"], ["next"], [2, 1], [("mark", "red", 1), fact, None])

    def test_no_fact_ahead_of_a_second_link(self):
        one, other, third = ("link", "next", 1, 2), ("link", "next", 1, 1), ("link", "next", 2, 2)
        wrong = ("mark", "red", True)
        self.fails(InvalidFact, wrong, store_of, ["red"], ["next"], [1, 2], [one, other, wrong, None])
        self.fails(InvalidFact, other, store_of, ["red"], ["next"], [1, 2], [one, one, other, third])
        self.fails(InvalidFact, third, store_of, ["red"], ["next"], [1, 2], [("mark", "red", 2), one, third, other])
        self.fails(InvalidFact, one, store_of, ["red"], ["next"], [1, 2], [third, one, other])

    def test_the_same_link_again_is_none_that_leads_twice(self):
        link = ("link", "next", 1, 1)
        self.assertEqual(store_of([], ["next"], [1], [link, tuple(list(link))])[4], [link])
        self.assertEqual(len(store_of([], ["a", "b"], [1, 2], [("link", "a", 1, 2), ("link", "b", 1, 2)])[4]), 2)


class Told(Checks, unittest.TestCase):
    def test_each_item_of_each_store(self):
        for store in stores_for_any_use() + small_stores():
            for item in store[3]:
                facts = facts_of(store, item)
                self.assertEqual(facts, [fact for fact in store[4] if item in fact])
                self.assert_new_lists(facts, store)
                for column in store[2]:
                    to = [fact[3] for fact in store[4] if fact[:3] == ("link", column, item)]
                    led = [fact[2] for fact in store[4] if fact[:2] == ("link", column) and fact[3] == item]
                    self.assertEqual(led_to(store, column, item), to[0] if to else None)
                    self.assertEqual(led_from(store, column, item), led[0] if led else None)

    def test_two_columns(self):
        store = ("store", ["red"], ["a", "b"], [0, 1, 2], [
            ("link", "a", 0, 1), ("link", "a", 2, 2), ("link", "b", 1, 0), ("mark", "red", 1)])
        self.assertEqual(facts_of(store, 1), [("link", "a", 0, 1), ("link", "b", 1, 0), ("mark", "red", 1)])
        self.assertEqual(facts_of(store, 2), [("link", "a", 2, 2)])
        self.assertEqual(facts_of(item=2, store=store), [("link", "a", 2, 2)])
        self.assertEqual([led_to(store, "a", item) for item in [0, 1, 2]], [1, None, 2])
        self.assertEqual([led_to(store, "b", item) for item in [0, 1, 2]], [None, 0, None])
        self.assertEqual([led_from(store, "a", item) for item in [0, 1, 2]], [None, 0, 2])
        self.assertEqual([led_from(store=store, column="b", item=item) for item in [0, 1, 2]], [1, None, None])
        self.assertEqual(led_to(item=1, column="b", store=store), 0)

    def test_errors(self):
        store = ("store", ["red"], ["next"], [0, 1], [("link", "next", 0, 1)])
        for wrong in junk():
            self.fails(InvalidStore, wrong, facts_of, wrong, -1)
            self.fails(InvalidStore, wrong, led_to, wrong, "up", -1)
            self.fails(InvalidStore, wrong, led_from, wrong, "up", -1)
        for column in ["up", "red", "", None, ["next"], ("next",), 1, {}]:
            self.fails(InvalidName, column, led_to, store, column, -1)
            self.fails(InvalidName, column, led_from, store, column, -1)
        for item in [2, -1, True, False, None, "0", [0], (0,), {}, 10 ** 29]:
            self.fails(InvalidItem, item, facts_of, store, item)
            self.fails(InvalidItem, item, led_to, store, "next", item)
            self.fails(InvalidItem, item, led_from, store, "next", item)


class Bounds(Checks, unittest.TestCase):
    def test_full_store(self):
        store = full_store()
        _, marks, columns, items, facts = store
        self.assertTrue(self.in_time(is_store, store))
        self.assertEqual(self.in_time(store_of, marks, columns, items[::-1], facts[::-1]), store)
        self.assertEqual(len(self.in_time(facts_of, store, MOST)), 8)
        self.assertEqual(self.in_time(led_to, store, "up", items[1]), items[8])
        self.assertEqual(self.in_time(led_from, store, "x" * 30, items[8]), items[1])

    def test_one_fact_too_many(self):
        store = full_store()
        facts = [*store[4], ("link", "up", store[3][0], store[3][0])]
        self.assertFalse(is_store((*store[:4], sorted(facts))))
        self.fails(InvalidFact, facts[-1], store_of, *store[1:4], facts)


class Example(unittest.TestCase):
    def test_example(self):
        small = store_of(["red"], ["next"], [4, 1, 2, 4], [
            ("link", "next", 2, 4), ("mark", "red", 1), ("link", "next", 1, 2)])
        self.assertEqual(small, ("store", ["red"], ["next"], [1, 2, 4], [
            ("link", "next", 1, 2), ("link", "next", 2, 4), ("mark", "red", 1)]))
        wrong = ("store", [], ["next"], [1, 2], [("link", "next", 1, 2), ("link", "next", 2, 2)])
        self.assertEqual([is_store(small), is_store(wrong)], [True, False])
        self.assertEqual([facts_of(small, 1), led_to(small, "next", 2), led_from(small, "next", 1)], [
            [("link", "next", 1, 2), ("mark", "red", 1)], 4, None])


if __name__ == "__main__":
    unittest.main()
