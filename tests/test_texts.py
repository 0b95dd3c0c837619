"""Points [13] and [14]: texts."""

import copy
import random
import unittest

from samples import MOST, RESERVED, Checks, full_store, junk, random_questions, small_stores, stores_for_any_use

from depthquestions.errors import InvalidQuestion, InvalidStore, InvalidText
from depthquestions.questions import inward, is_question
from depthquestions.stores import is_store
from depthquestions.texts import read_question, read_store, store_wrong_at, written, written_store, wrong_at
from depthquestions.words import is_word

NO_STRINGS = [value for value in junk() if not isinstance(value, str)] + [["true"], ("true",), b"true"]
QUESTION_SIGNS = ["true", "false", "not", "some", "all", "and", "or", "x", "red", "(", ")", ",", ":", "=", ";", "12",
                  "in", "link", "0"]
STORE_SIGNS = ["marks", "columns", "items", "red", "(", ")", ",", ";", ":", "0", "12", str(MOST), str(MOST + 1), "in"]


class Wrong(Exception):
    """Raised by the readers below at a wrong token."""


class Reader:
    """Reads a list of tokens by the tables of the document, one row of a table by one method."""

    def __init__(self, tokens):
        self.tokens = [*tokens, "end"]
        self.at = 0

    def now(self):
        return self.tokens[self.at]

    def take(self, right):
        if not right(self.now()):
            raise Wrong
        self.at += 1
        return self.tokens[self.at - 1]

    def sign(self, sign):
        return self.take(lambda token: token == sign)

    def word(self):
        return self.take(lambda token: token != "end" and is_word(token))

    def number(self):
        return int(self.take(lambda token: token.isdigit() and int(token) <= MOST))

    def question(self):
        result = self.both()
        while self.now() == "or":
            self.sign("or")
            result = ("or", result, self.both())
        return result

    def both(self):
        result = self.part()
        while self.now() == "and":
            self.sign("and")
            result = ("and", result, self.part())
        return result

    def part(self):
        if self.now() in ("true", "false"):
            return (self.sign(self.now()),)
        if self.now() == "not":
            self.sign("not")
            return ("not", self.part())
        if self.now() in ("some", "all"):
            word = self.sign(self.now())
            name = self.word()
            self.sign(":")
            return (word, name, self.part())
        if self.now() == "(":
            self.sign("(")
            result = self.question()
            self.sign(")")
            return result
        first = self.word()
        if self.now() == "=":
            self.sign("=")
            return ("same", first, self.word())
        self.sign("(")
        names = [self.word()]
        if self.now() == ",":
            self.sign(",")
            names.append(self.word())
        self.sign(")")
        return ("mark" if len(names) == 1 else "link", first, *names)

    def row(self, opening, read):
        self.sign(opening)
        found = []
        if self.now() != ";":
            found.append(read())
            while self.now() == ",":
                self.sign(",")
                found.append(read())
        self.sign(";")
        return found

    def store(self):
        marks = self.row("marks", self.word)
        columns = self.row("columns", self.word)
        items = self.row("items", self.number)
        facts = []
        while self.now() != "end":
            word = self.word()
            self.sign("(")
            numbers = [self.number()]
            if self.now() == ",":
                self.sign(",")
                numbers.append(self.number())
            self.sign(")")
            self.sign(";")
            facts.append(("mark" if len(numbers) == 1 else "link", word, *numbers))
        return ("store", marks, columns, sorted(items), sorted(facts))


def expected(tokens, row):
    """What tokens tell and None, or None and the number of the first wrong one."""
    reader = Reader(tokens)
    try:
        result = getattr(reader, row)()
        reader.sign("end")
    except Wrong:
        return None, reader.at
    return result, None


def laid_out(chance, tokens):
    """A text of tokens with blanks and notes between them, and the places of the tokens and of the end."""
    text, places = "", []
    for token in tokens:
        gap = chance.choice([" ", "  ", "\t", "\n", " \n\n ", "# note: x ( 1\n", " #\n", "\n# and\n\t"])
        if text and not (text[-1].isalnum() and token[0].isalnum()):
            gap = chance.choice(["", gap])
        text += gap
        places.append((text.count("\n") + 1, len(text) - text.rfind("\n")))
        text += token
    text += chance.choice(["", "", " ", "\n", "# the end", " # the end\n", "\t\n "])
    places.append((text.count("\n") + 1, len(text) - text.rfind("\n")))
    return text, places


def tokens_of_question(one):
    """The tokens of a question with just the parentheses that the table asks for, told anew."""
    def part(inner):
        return ["(", *tokens_of_question(inner), ")"] if inner[0] in ("and", "or") else tokens_of_question(inner)

    def both(inner):
        return ["(", *tokens_of_question(inner), ")"] if inner[0] == "or" else tokens_of_question(inner)

    match one:
        case ("mark", mark, x):
            return [mark, "(", x, ")"]
        case ("link", column, x, y):
            return [column, "(", x, ",", y, ")"]
        case ("same", x, y):
            return [x, "=", y]
        case ("not", p):
            return ["not", *part(p)]
        case ("and", p, q):
            return [*both(p), "and", *part(q)]
        case ("or", p, q):
            return [*tokens_of_question(p), "or", *both(q)]
        case (("some" | "all") as word, x, p):
            return [word, x, ":", *part(p)]
    return [one[0]]


def joined(tokens):
    """Tokens with the blanks that the document tells."""
    text = ""
    for at, token in enumerate(tokens):
        ahead = tokens[at - 1] if at else "("
        opens = token == "(" and (at == 0 or not is_word(ahead))
        if ahead != "(" and token not in (")", ",", ":") and (token != "(" or opens):
            text += " "
        text += token
    return text


def spoilt(chance, tokens, signs):
    """Tokens of which one is left out, one put in, or one exchanged."""
    at = chance.randrange(len(tokens) + 1)
    way = chance.choice(["out", "in", "other"])
    if way == "in":
        return [*tokens[:at], chance.choice(signs), *tokens[at:]]
    if way == "out":
        return [*tokens[:at], *tokens[at + 1:]]
    return [*tokens[:at], chance.choice(signs), *tokens[at + 1:]]


class ReadQuestion(Checks, unittest.TestCase):
    def test_each_form(self):
        for text, question in [
                ("true", ("true",)), ("false", ("false",)), ("red(x)", ("mark", "red", "x")),
                ("next(x,y)", ("link", "next", "x", "y")), ("x=y", ("same", "x", "y")),
                ("not true", ("not", ("true",))), ("not not x = x", ("not", ("not", ("same", "x", "x")))),
                ("some x:true", ("some", "x", ("true",))), ("all x : false", ("all", "x", ("false",))),
                ("((true))", ("true",)), ("marks(items)", ("mark", "marks", "items"))]:
            self.assertEqual(read_question(text), question)
            self.assertEqual(read_question(text=text), question)
            self.assertIsNone(wrong_at(text))

    def test_what_binds_closer(self):
        a, b, c = ("mark", "r", "a"), ("mark", "r", "b"), ("mark", "r", "c")
        for text, question in [
                ("r(a) and r(b) and r(c)", ("and", ("and", a, b), c)),
                ("r(a) or r(b) or r(c)", ("or", ("or", a, b), c)),
                ("r(a) or r(b) and r(c)", ("or", a, ("and", b, c))),
                ("r(a) and r(b) or r(c)", ("or", ("and", a, b), c)),
                ("r(a) and (r(b) or r(c))", ("and", a, ("or", b, c))),
                ("r(a) and (r(b) and r(c))", ("and", a, ("and", b, c))),
                ("not r(a) and r(b)", ("and", ("not", a), b)),
                ("some x: r(a) or r(b)", ("or", ("some", "x", a), b)),
                ("all x: some y: not r(a) and r(b)", ("and", ("all", "x", ("some", "y", ("not", a))), b)),
                ("not (r(a) or r(b)) and r(c)", ("and", ("not", ("or", a, b)), c))]:
            self.assertEqual(read_question(text), question)

    def test_it_need_not_be_a_question(self):
        twice = read_question("some x: some x: red(x)")
        self.assertEqual(twice, ("some", "x", ("some", "x", ("mark", "red", "x"))))
        self.assertFalse(is_question(twice))
        self.assertFalse(is_question(read_question("red(x) and some x: red(x)")))

    def test_random_tokens(self):
        chance = random.Random(20)
        for _ in range(6000):
            tokens = [chance.choice(QUESTION_SIGNS) for _ in range(chance.randrange(9))]
            self.compare(chance, tokens)

    def test_spoilt_questions(self):
        chance = random.Random(21)
        for question in random_questions(22, 800, depth=3):
            tokens = tokens_of_question(question)
            self.compare(chance, tokens)
            for _ in range(3):
                tokens = spoilt(chance, tokens, QUESTION_SIGNS)
                self.compare(chance, tokens)

    def test_every_kind_of_token_everywhere(self):
        chance = random.Random(23)
        tokens = tokens_of_question(read_question("all x: (not some y: next(x, y) or red(z) and x = y) and true"))
        for at in range(len(tokens) + 1):
            self.compare(chance, tokens[:at])
            self.compare(chance, [*tokens[:at], *tokens[at + 1:]])
            for sign in QUESTION_SIGNS:
                self.compare(chance, [*tokens[:at], sign, *tokens[at:]])
                self.compare(chance, [*tokens[:at], sign, *tokens[at + 1:]])

    def compare(self, chance, tokens):
        """Reads tokens as the reader above does."""
        text, places = laid_out(chance, tokens)
        result, wrong = expected(tokens, "question")
        if wrong is None:
            self.assertIsNone(wrong_at(text), text)
            self.assert_same(read_question(text), result)
        else:
            self.assertEqual(wrong_at(text), places[wrong], text)
            self.fails_with(InvalidText, places[wrong], read_question, text)

    def test_no_tokens(self):
        for text, place in [
                ("redX(x)", (1, 4)), ("Red(x)", (1, 1)), ("red(x) & true", (1, 8)), ("9red(x)", (1, 1)),
                ("red(9x)", (1, 5)), ("red(x)!", (1, 7)), ("red(x) or true or\n  ?", (2, 3)), ("re_d(x)", (1, 3)),
                ("red(x).", (1, 7)), ("\"true\"", (1, 1)), ("true true", (1, 6)), ("truetrue", (1, 9)),
                ("x == y", (1, 4)), ("x = 01", (1, 5)), ("x = 1", (1, 5)), ("x != y", (1, 3)), ("-", (1, 1)),
                ("a" * 30 + "(x)", None), ("a" * 31 + "(x)", (1, 1)), ("red(" + "a" * 31 + ")", (1, 5)),
                ("some " + "b" * 31 + ": true", (1, 6)), ("some " + "b" * 30 + ": true", None),
                ("true\u00e9", (1, 5)), ("tru\u00e9", (1, 4)), ("\u00e9", (1, 1))]:
            self.assertEqual(wrong_at(text), place, text)
            if place:
                self.fails_with(InvalidText, place, read_question, text)

    def test_reserved_words(self):
        for word in RESERVED:
            self.assertEqual(wrong_at(f"red({word})"), (1, 5))
            self.assertEqual(wrong_at(f"next(x, {word})"), (1, 9))
            self.assertEqual(wrong_at(f"x = {word}"), (1, 5))
            self.assertEqual(wrong_at(f"some {word}: true"), (1, 6))
            self.assertEqual(wrong_at(f"all {word}: true"), (1, 5))
            self.assertIsNotNone(wrong_at(f"{word}(x)"))
        for word in ["in", "link", "mark", "same", "or", "and"]:
            self.assertEqual(wrong_at(f"{word}(x)"), (1, 1))
            self.assertEqual(wrong_at(f"true and\n\n {word} = x"), (3, 2))

    def test_ends(self):
        for text, place in [
                ("", (1, 1)), (" ", (1, 2)), ("\n", (2, 1)), ("# true", (1, 7)), ("not", (1, 4)), ("not ", (1, 5)),
                ("not\n", (2, 1)), ("not # x\n# y", (2, 4)), ("(true", (1, 6)), ("(true # )", (1, 10)),
                ("(true\n\n  ", (3, 3)), ("some x", (1, 7)), ("x", (1, 2)), ("x =\t", (1, 5)), ("red(x,", (1, 7)),
                ("true\n\n", None), ("true #", None), ("# note\ntrue", None), ("\ttrue\t", None), ("true)", (1, 5)),
                ("(true))", (1, 7)), ("()", (1, 2)), ("(true) (true)", (1, 8)), ("true;", (1, 5)), ("red()", (1, 5))]:
            self.assertEqual(wrong_at(text), place, text)

    def test_notes_and_blanks(self):
        self.assertEqual(read_question("not# a note: Xx (1 \n\t( true#)\n)#"), ("not", ("true",)))
        self.assertEqual(wrong_at("true #\n#?!\n or \t X"), (3, 7))
        self.assertEqual(read_question("x#y\n=#z\n#\ny"), ("same", "x", "y"))
        self.assertEqual(wrong_at("re#\nd(x)"), (2, 1))

    def test_no_strings(self):
        for value in NO_STRINGS:
            self.fails(InvalidText, value, read_question, value)
            self.fails(InvalidText, value, wrong_at, value)
            self.fails(InvalidText, value, wrong_at, text=value)


class Written(Checks, unittest.TestCase):
    def test_parentheses(self):
        a, b, c = ("mark", "r", "a"), ("link", "n", "b", "b"), ("same", "c", "c")
        for question, text in [
                (("and", ("and", a, b), c), "r(a) and n(b, b) and c = c"),
                (("and", a, ("and", b, c)), "r(a) and (n(b, b) and c = c)"),
                (("or", ("or", a, b), c), "r(a) or n(b, b) or c = c"),
                (("or", a, ("or", b, c)), "r(a) or (n(b, b) or c = c)"),
                (("or", ("and", a, b), ("and", b, c)), "r(a) and n(b, b) or n(b, b) and c = c"),
                (("and", ("or", a, b), ("or", b, c)), "(r(a) or n(b, b)) and (n(b, b) or c = c)"),
                (("and", ("or", ("and", ("or", a, b), c), a), b), "((r(a) or n(b, b)) and c = c or r(a)) and n(b, b)"),
                (("not", ("not", ("not", a))), "not not not r(a)"),
                (("not", ("and", a, b)), "not (r(a) and n(b, b))"),
                (("not", ("or", a, c)), "not (r(a) or c = c)"),
                (("and", ("not", a), ("not", c)), "not r(a) and not c = c"),
                (("some", "x", ("all", "y", ("or", a, b))), "some x: all y: (r(a) or n(b, b))"),
                (("or", ("some", "x", a), ("all", "y", c)), "some x: r(a) or all y: c = c"),
                (("and", ("some", "x", ("and", a, c)), ("true",)), "some x: (r(a) and c = c) and true")]:
            self.assertEqual(written(question), text)
            self.assertEqual(written(question=question), text)
            self.assertEqual(read_question(text), question)

    def test_many(self):
        for question in random_questions(24, 800, depth=3) + random_questions(25, 200, names=("in1", "b"), size=50):
            for one in [question, inward(("not", question))]:
                before = copy.deepcopy(one)
                text = written(one)
                self.assertEqual(before, one)
                self.assertEqual(text, joined(tokens_of_question(one)))
                self.assertIsNone(wrong_at(text))
                self.assert_same(read_question(text), one)

    def test_no_needless_parentheses(self):
        for question in random_questions(26, 200, depth=2):
            tokens = tokens_of_question(question)
            for at, token in enumerate(tokens):
                if token != "(" or (at and is_word(tokens[at - 1])):
                    continue
                end, still_open = at, 1
                while still_open:
                    end += 1
                    still_open += (tokens[end] == "(") - (tokens[end] == ")")
                fewer = joined([*tokens[:at], *tokens[at + 1:end], *tokens[end + 1:]])
                self.assertTrue(wrong_at(fewer) is not None or read_question(fewer) != question)

    def test_rows(self):
        row = ("mark", "a" * 30, "x")
        for at in range(29):
            row = ("and", row, ("link", "b" * 30, "x", f"y{at}"))
        text = self.in_time(written, row)
        self.assertEqual(text.count("("), 30)
        self.assertEqual(self.in_time(read_question, text), row)
        other = ("true",)
        for _ in range(29):
            other = ("or", ("true",), other)
        text = written(other)
        self.assertEqual(text, "true or (" * 28 + "true or true" + ")" * 28)
        self.assertEqual(self.in_time(read_question, text), other)

    def test_wrong_questions(self):
        for wrong in junk() + [("some", "x", ("some", "x", ("true",))), ("mark", "in", "x"),
                               ("and", ("mark", "red", "x"), ("some", "x", ("true",)))]:
            self.fails(InvalidQuestion, wrong, written, wrong)


class Limits(Checks, unittest.TestCase):
    def test_long_texts(self):
        text = ("true" + " " * 600 + "or # note: " + "x" * 50 + "\n") * 29 + "true"
        self.assertLess(len(text), 20001)
        self.assertIsNone(self.in_time(wrong_at, text))
        self.assertEqual(self.in_time(read_question, text)[0], "or")
        self.assertEqual(wrong_at(text + " )"), (30, 6))
        self.assertEqual(self.in_time(wrong_at, "a" * 20000), (1, 1))
        self.assertEqual(self.in_time(wrong_at, "x = y" + "\n" * 19990 + "and"), (19991, 4))

    def test_parts_within_one_another(self):
        for many in [40, 400]:
            text = "(" * many + "true" + ")" * many
            self.assertEqual(self.in_time(read_question, text), ("true",))
            self.assertEqual(wrong_at(text[:-1]), (1, 2 * many + 4))
            self.assertEqual(wrong_at(text + ")"), (1, 2 * many + 5))
            text = "some x: not (true or " * many + "true" + ")" * many
            self.assertIsNone(self.in_time(wrong_at, text))
            self.assertEqual(self.in_time(read_question, text)[0], "some")


class ReadStore(Checks, unittest.TestCase):
    def test_ordinary(self):
        text = "marks red, blue; columns next; items 3, 1, 0; red(3); next(1, 3); blue(3); next(3, 1);"
        store = ("store", ["red", "blue"], ["next"], [0, 1, 3], [
            ("link", "next", 1, 3), ("link", "next", 3, 1), ("mark", "blue", 3), ("mark", "red", 3)])
        self.assert_same(read_store(text), store)
        self.assert_same(read_store(text=text), store)
        self.assertIsNone(store_wrong_at(text=text))
        self.assert_new_lists(read_store(text))

    def test_none_of_something(self):
        for text, store in [
                ("marks;columns;items;", ("store", [], [], [], [])),
                ("marks a;columns;items;", ("store", ["a"], [], [], [])),
                ("marks;columns b,a;items;", ("store", [], ["b", "a"], [], [])),
                ("marks;columns;items 0;\n", ("store", [], [], [0], [])),
                ("#\nmarks;columns;items 1000000000# x\n;", ("store", [], [], [MOST], [])),
                ("marks marks;columns columns;items 5;marks(5);columns(5,5);", (
                    "store", ["marks"], ["columns"], [5], [("link", "columns", 5, 5), ("mark", "marks", 5)]))]:
            self.assert_same(read_store(text), store)
            self.assertIsNone(store_wrong_at(text))
            self.assert_new_lists(read_store(text))

    def test_no_stores(self):
        for text, form in [
                ("marks a, a; columns; items;", (["a", "a"], [], [], [])),
                ("marks a, b, c, d, e; columns; items;", (["a", "b", "c", "d", "e"], [], [], [])),
                ("marks b; columns a, b; items;", (["b"], ["a", "b"], [], [])),
                ("marks; columns a, b, c; items;", ([], ["a", "b", "c"], [], [])),
                ("marks; columns; items 2, 1, 2;", ([], [], [1, 2, 2], [])),
                ("marks a; columns; items 2, 1; a(2); a(1); a(2);", (
                    ["a"], [], [1, 2], [("mark", "a", 1), ("mark", "a", 2), ("mark", "a", 2)])),
                ("marks a; columns; items 1; a(2);", (["a"], [], [1], [("mark", "a", 2)])),
                ("marks a; columns; items 1; b(1);", (["a"], [], [1], [("mark", "b", 1)])),
                ("marks a; columns n; items 1; n(1); a(1, 1);", (
                    ["a"], ["n"], [1], [("link", "a", 1, 1), ("mark", "n", 1)])),
                ("marks; columns n; items 2, 1; n(2, 1); n(1, 1);", (
                    [], ["n"], [1, 2], [("link", "n", 1, 1), ("link", "n", 2, 1)])),
                ("marks; columns n; items 2, 1; n(2, 1); n(2, 2);", (
                    [], ["n"], [1, 2], [("link", "n", 2, 1), ("link", "n", 2, 2)]))]:
            self.assertIsNone(store_wrong_at(text))
            self.fails_with(InvalidStore, ("store", *form), read_store, text)

    def test_too_many_items(self):
        items = list(range(2001))
        text = f"marks; columns; items {', '.join(map(str, items[::-1]))};"
        self.fails_with(InvalidStore, ("store", [], [], items, []), read_store, text)

    def test_numbers(self):
        head = "marks a; columns n; items "
        for number, right in [("0", True), ("1000000000", True), ("1000000001", False), ("00", False), ("01", False),
                              ("9" * 30, False), ("1" * 31, False), ("1a", False), ("-1", False), ("999999999", True),
                              ("0" * 31, False), ("a", False), ("9" * 5000, False)]:
            self.assertEqual(store_wrong_at(f"{head}{number};"), None if right else (1, 27), number)
            self.assertEqual(store_wrong_at(f"{head};a({number});"), None if right else (1, 30), number)
            self.assertEqual(store_wrong_at(f"{head};n(1,{number});"), None if right else (1, 32), number)

    def test_no_tokens(self):
        for text, place in [
                ("marks red columns;", (1, 11)), ("", (1, 1)), ("Marks;", (1, 1)), ("marksX;", (1, 6)),
                ("columns;", (1, 1)), ("marks red,;", (1, 11)), ("marks , red;", (1, 7)), ("marks red blue;", (1, 11)),
                ("marks;columns;items 1 2;", (1, 23)), ("marks;columns;items 1,;", (1, 23)),
                ("marks;columns;items", (1, 20)), ("marks;columns;items\n# x", (2, 4)), ("marks;items;", (1, 7)),
                ("marks;columns;items;a", (1, 22)), ("marks;columns;items;a()", (1, 23)),
                ("marks;columns;items;a(1)", (1, 25)), ("marks;columns;items;a(1,2,3)", (1, 26)),
                ("marks;columns;items;;", (1, 21)), ("marks;columns;items;a=1;", (1, 22)),
                ("marks " + "a" * 31 + ";", (1, 7)), ("marks " + "a" * 30 + ";", (1, 38)), ("marks;columns !", (1, 15)),
                ("marks;columns;items;\na(b);", (2, 3)), ("marks;columns;items;items(1)#;\n ", (2, 2))]:
            self.assertEqual(store_wrong_at(text), place, text)
            self.fails_with(InvalidText, place, read_store, text)

    def test_reserved_words(self):
        for word in RESERVED:
            self.assertEqual(store_wrong_at(f"marks {word};"), (1, 7))
            self.assertEqual(store_wrong_at(f"marks a, {word};"), (1, 10))
            self.assertEqual(store_wrong_at(f"marks; columns {word};"), (1, 16))
            self.assertEqual(store_wrong_at(f"marks; columns; items; {word}(1);"), (1, 24))

    def compare(self, chance, tokens):
        text, places = laid_out(chance, tokens)
        result, wrong = expected(tokens, "store")
        if wrong is not None:
            self.assertEqual(store_wrong_at(text), places[wrong], text)
            self.fails_with(InvalidText, places[wrong], read_store, text)
            return
        self.assertIsNone(store_wrong_at(text), text)
        if is_store(result):
            self.assert_same(read_store(text), result)
        else:
            self.fails_with(InvalidStore, result, read_store, text)

    def test_spoilt_texts(self):
        chance = random.Random(30)
        right = "marks red , blue ; columns next ; items 0 , 12 , 5 ; red ( 0 ) ; next ( 12 , 0 ) ;".split()
        for at in range(len(right) + 1):
            self.compare(chance, right[:at])
            self.compare(chance, [*right[:at], *right[at + 1:]])
            for sign in STORE_SIGNS:
                self.compare(chance, [*right[:at], sign, *right[at:]])
                self.compare(chance, [*right[:at], sign, *right[at + 1:]])
        for _ in range(1500):
            tokens = right
            for _ in range(chance.choice([1, 2, 3])):
                tokens = spoilt(chance, tokens, STORE_SIGNS)
            self.compare(chance, tokens)

    def test_no_strings(self):
        for value in NO_STRINGS:
            self.fails(InvalidText, value, read_store, value)
            self.fails(InvalidText, value, store_wrong_at, value)


class WrittenStore(Checks, unittest.TestCase):
    def test_rows(self):
        store = ("store", ["b", "a"], ["up", "n"], [0, 10, 200], [
            ("link", "n", 0, 10), ("link", "n", 200, 200), ("link", "up", 10, 0), ("mark", "a", 10), ("mark", "b", 0)])
        self.assertEqual(
            written_store(store),
            "marks b, a;\ncolumns up, n;\nitems 0, 10, 200;\nn(0, 10);\nn(200, 200);\nup(10, 0);\na(10);\nb(0);\n")
        self.assertEqual(written_store(store=("store", [], [], [7], [])), "marks;\ncolumns;\nitems 7;\n")

    def test_and_back(self):
        for store in stores_for_any_use() + small_stores():
            before = copy.deepcopy(store)
            text = written_store(store)
            self.assertIsNone(store_wrong_at(text))
            self.assert_same(read_store(text), store)
            self.assertEqual(before, store)

    def test_no_stores(self):
        for wrong in junk() + [("store", ["in"], [], [], []), ("store", [], [], [True], [])]:
            self.fails(InvalidStore, wrong, written_store, wrong)

    def test_great_stores(self):
        store = ("store", ["red"], [], list(range(MOST - 1200, MOST + 1)), [])
        text = self.in_time(written_store, store)
        self.assertEqual(text.count("\n"), 3)
        self.assertEqual(self.in_time(read_store, text), store)
        self.assertEqual(self.in_time(store_wrong_at, text.replace("\n", "")[:-1]), (1, len(text) - 3))
        full = full_store()
        self.assertEqual(self.in_time(read_store, self.in_time(written_store, full)), full)

    def test_long_wrong_texts(self):
        self.assertEqual(self.in_time(store_wrong_at, "marks" + "; " * 49997), (1, 8))
        self.assertEqual(self.in_time(store_wrong_at, "marks;columns;items " + "7," * 49990), (1, 100001))
        self.assertEqual(self.in_time(store_wrong_at, "m" * 100000), (1, 1))


class Example(unittest.TestCase):
    def test_example(self):
        asked = read_question("all x: (not some y: next(x, y) or red(z))")
        self.assertEqual(
            asked, ("all", "x", ("or", ("not", ("some", "y", ("link", "next", "x", "y"))), ("mark", "red", "z"))))
        self.assertEqual(
            [written(asked), written(("not", ("and", ("or", ("true",), ("false",)), ("true",))))],
            ["all x: (not some y: next(x, y) or red(z))", "not ((true or false) and true)"])
        self.assertEqual(read_question("red(y) and blue(x)"), ("and", ("mark", "red", "y"), ("mark", "blue", "x")))
        self.assertEqual(
            [wrong_at("some x red(x)"), wrong_at("x = y and"), wrong_at("not (red(x)"), wrong_at("redX(x)"),
             wrong_at("true"), store_wrong_at("marks red columns;")],
            [(1, 8), (1, 10), (1, 12), (1, 4), None, (1, 11)])
        self.assertEqual(
            [written_store(("store", ["red"], ["next"], [1, 2], [("link", "next", 1, 2), ("mark", "red", 2)])),
             read_store("marks; columns next; items 3, 1; next(1, 3);"), written_store(("store", [], [], [], []))],
            ["marks red;\ncolumns next;\nitems 1, 2;\nnext(1, 2);\nred(2);\n",
             ("store", [], ["next"], [1, 3], [("link", "next", 1, 3)]), "marks;\ncolumns;\nitems;\n"])


if __name__ == "__main__":
    unittest.main()
