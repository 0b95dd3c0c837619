"""What holds over the whole program: one question, told in many ways; the examples of the document; pure functions."""

import ast
import copy
import random
import re
import unittest
from itertools import product
from pathlib import Path

from samples import Checks, random_stores, reading
from test_answers import asked

from depthquestions.answers import by_types, how_many, is_answer, page
from depthquestions.base import read_base
from depthquestions.codes import code_of
from depthquestions.deeds import done
from depthquestions.kept import Kept
from depthquestions.looking import local_holds
from depthquestions.machines import machine
from depthquestions.plain import answers, holds
from depthquestions.profiles import holds_by_types, profile
from depthquestions.questions import depth, free_names, inward, plainer, renamed
from depthquestions.radii import radius
from depthquestions.sums import holds_in_union, how_many_in_union, union
from depthquestions.texts import read_question, read_store, written, written_store
from depthquestions.told import is_told_by, told_by

DOC = Path(__file__).resolve().parent.parent.parent / "shared" / "DOC.md"


def other_forms(question, names):
    """A question in other forms that hold where it does, none of which binds one of the names."""
    found = [question, read_question(written(question)), inward(question), inward(("not", ("not", question))),
             plainer(question), plainer(inward(question))]
    found += [("not", inward(("not", question)))]
    if not any(f"'{name}'" in repr(renamed(("and", question, ("true",)))) and name not in free_names(question)
               for name in names):
        found.append(renamed(question))
    return found


def cases(seed, many):
    """Stores with questions and names for them, within the limits of a base."""
    chance = random.Random(seed)
    for columns in range(3):
        names_of = ["next", "up"][:columns]
        stores = [store for store in random_stores(seed + columns, 200, 6)
                  if set(store[2]) == set(names_of) and len(store[1]) == 2]
        rows = [row for row in asked(seed + 10 + columns, 120, columns, size=14)
                if depth(row[0]) <= (1 if columns == 2 else 2)]
        for question, names in rows[:many]:
            for store in chance.sample(stores, 3):
                yield store, question, names


class OneQuestion(Checks, unittest.TestCase):
    def told_alike(self, store, question, names, expected):
        """Each way to ask a question tells the expected answers."""
        self.assertEqual(answers(store, question, names), expected)
        self.assertEqual((how_many(store, question, names), page(store, question, names, 0, 1000)),
                         (len(expected), expected))
        free = free_names(question)
        for row in list(product(store[3], repeat=len(names)))[::3]:
            bound = dict(zip(names, row))
            binding = [(name, bound[name]) for name in free]
            flag = row in expected
            self.assertIs(holds(store, question, binding), flag)
            self.assertIs(local_holds(store, question, binding), flag)
            self.assertIs(is_answer(store, question, names, row), flag)
            told, paper = told_by(store, question, binding)
            self.assertIs(told, flag)
            self.assertIs(is_told_by(store, question, binding, flag, paper), True)
            shape = code_of(store, row, radius(depth(question)))
            counts = profile(store, depth(question), len(names))
            self.assertIs(holds_by_types(store[1], store[2], question, names, shape, counts), flag)
            codes = {code: kind for code, _, kind in by_types(store, question, names)}
            self.assertIs(codes[shape], flag)

    def test_all_ways(self):
        for store, question, names in cases(500, 14):
            rows = product(store[3], repeat=len(names))
            expected = [row for row in rows if reading(store, question, dict(zip(names, row)))]
            kept = Kept(store, 1 if len(store[2]) == 2 else 2)
            base = read_base(written_store(store))
            self.assertEqual(read_store(written_store(store)), store)
            for form in other_forms(question, names):
                self.told_alike(store, form, names, expected)
                self.assertEqual(kept.pages(form, names, 0, 1000), expected)
                base.define("q", written(form), names)
                self.assertEqual((list(base.each("q")), base.count("q")), (expected, len(expected)))

    def test_behind_edits(self):
        for store, question, names in cases(520, 6):
            kept = Kept(("store", store[1], store[2], [], []), 1 if len(store[2]) == 2 else 2)
            base = read_base(written_store(kept.store()))
            base.define("q", written(question), names)
            edits = [("add", item) for item in store[3]] + [("put", fact) for fact in store[4]]
            seen = []
            for edit in edits:
                gained, lost = kept.gained(question, names, edit), kept.lost(question, names, edit)
                self.assertEqual(base.together([edit]), [("q", gained, lost)] if gained or lost else [])
                (kept.add if edit[0] == "add" else kept.put_in)(edit[1])
                seen = sorted([row for row in seen if row not in lost] + gained)
                self.assertEqual(kept.pages(question, names, 0, 1000), seen)
            self.assertEqual(kept.store(), store)
            self.assertEqual(base.store(), done(("store", store[1], store[2], [], []), edits))
            self.assertEqual(seen, answers(store, question, names))

    def test_unions(self):
        for store, question, names in cases(540, 14):
            pieces = [("store", store[1], store[2], store[3][:3], [
                fact for fact in store[4] if set(fact[2:]) <= set(store[3][:3])])]
            if depth(question) + len(names) <= 3:
                whole = union(pieces, [2])
                self.assertEqual(how_many_in_union(question, names, pieces, [2]), how_many(whole, question, names))
                closed = question
                for name in free_names(question):
                    closed = ("some", name, closed)
                for form in other_forms(closed, []):
                    self.assertIs(holds_in_union(form, pieces, [2]), holds(whole, closed, []))

    def test_machines(self):
        for store, question, _ in cases(560, 40):
            closed = question
            for name in free_names(question):
                closed = ("all", name, closed)
            if len(store[2]) == 1:
                expected = machine(store[1], store[2], closed)
                for form in other_forms(closed, []):
                    self.assertEqual(machine(store[1], store[2], form), expected)

    def test_two_calls_are_alike(self):
        for store, question, names in cases(580, 8):
            before = copy.deepcopy((store, question, names))
            one, other = [(how_many(store, question, names), by_types(store, question, names),
                           page(store, question, names, 0, 9)) for _ in range(2)]
            self.assert_same(one, other)
            self.assert_new_lists([one, other], store, names)
            self.assert_same((store, question, names), before)


class Document(unittest.TestCase):
    @unittest.skipUnless(DOC.exists(), "the document does not stand beside the repository")
    def test_examples_word_by_word(self):
        text = DOC.read_text(encoding="utf-8")
        blocks = [block for block in re.findall(r"^```\n(.*?)^```", text, re.S | re.M) if "import" in block]
        self.assertEqual(len(blocks), 11)
        compared = 0
        for block in blocks:
            known, lines = {}, block.splitlines()
            for at, line in enumerate(lines):
                if line.startswith("# "):
                    continue
                if at + 1 < len(lines) and lines[at + 1].startswith("# "):
                    compared += 1
                    self.assertEqual(repr(eval(line, known)), repr(ast.literal_eval(lines[at + 1][2:])), line)
                else:
                    exec(line, known)
        self.assertGreater(compared, 45)


if __name__ == "__main__":
    unittest.main()
