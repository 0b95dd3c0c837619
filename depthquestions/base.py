"""A base: a store under edits with named questions, and news of the answers that they gain and lose."""

from depthquestions.asking import quick_test
from depthquestions.deeds import INVERSES, all_made, check_edits, made, remade
from depthquestions.errors import (
    InvalidFlag, InvalidList, InvalidName, InvalidQuestion, InvalidText, NothingToRedo, NothingToUndo, TooMany)
from depthquestions.finding import all_answers, are_names_asked, is_row, page_of, rows_not_in, stands_in
from depthquestions.looking import Sight
from depthquestions.questions import depth_in, free_names, is_question_of, seen_in
from depthquestions.stores import MOST_COLUMNS, check_signs
from depthquestions.texts import check_text, read_question, read_store, written, written_store
from depthquestions.words import is_word

MOST_DEFINED = 8
MOST_BASE_DEPTH = 2
TOGETHER = "together"
ASK = "ask"
LEAST_ASK_WORDS = 3


def edits_of(change):
    """Returns the list of the edits of a change."""
    return change[1] if change[0] == TOGETHER else [change]


def inverse_edits(change):
    """Returns the list of the edits that take a change back."""
    return [(INVERSES[word], value) for word, value in edits_of(change)[::-1]]


def told_change(change):
    """Returns a change with a list of its own."""
    return (TOGETHER, list(change[1])) if change[0] == TOGETHER else change


class Base:
    """A store under edits, and named questions of it."""

    def __init__(self, marks, columns):
        check_signs(marks, columns)
        self.held = ("store", list(marks), list(columns), [], [])
        self.questions = {}
        self.found = {}
        self.standing = []
        self.taken_back = []

    def store(self):
        """Returns the store."""
        return remade(self.held, self.held[3], self.held[4])

    def __len__(self):
        return len(self.held[3])

    def __contains__(self, name):
        return isinstance(name, str) and name in self.questions

    def __eq__(self, other):
        if not isinstance(other, Base) or self.held != other.held:
            return False
        return list(self.questions.items()) == list(other.questions.items())

    def question_of(self, text):
        """Returns the question of a text, if it is one of the store that is not too deep."""
        question = read_question(text)
        _, marks, columns, _, _ = self.held
        most = MOST_BASE_DEPTH - 1 if len(columns) == MOST_COLUMNS else MOST_BASE_DEPTH
        if not is_question_of(marks, columns, question) or depth_in(seen_in(question)) > most:
            raise InvalidQuestion(question)
        return question

    def define(self, name, text, names):
        """Names a question, in the place of the one that has this name, or behind all others."""
        if not is_word(name):
            raise InvalidName(name)
        question = self.question_of(text)
        if not are_names_asked(question, names):
            raise InvalidList(names)
        if name not in self.questions and len(self.questions) == MOST_DEFINED:
            raise TooMany(MOST_DEFINED + 1)
        self.questions[name] = (question, list(names))
        self.found.pop(name, None)

    def check_name(self, name):
        """Raises the error for what must be the name of a question and is none."""
        if not isinstance(name, str) or name not in self.questions:
            raise InvalidName(name)

    def forget(self, name):
        """Takes a name away."""
        self.check_name(name)
        del self.questions[name]
        self.found.pop(name, None)

    def definition(self, name):
        """Returns the text and the names of the question of a name."""
        self.check_name(name)
        question, names = self.questions[name]
        return (written(question), list(names))

    def defined(self):
        """Returns the list of the names, in the order in which they were defined first."""
        return list(self.questions)

    def rows_of(self, name):
        """Returns the list of all answers of a name; it is found once and kept up to the next change."""
        if name not in self.found:
            question, names = self.questions[name]
            self.found[name] = all_answers(self.held, question, names)
        return self.found[name]

    def count(self, name):
        """Returns how many answers the question of a name has."""
        self.check_name(name)
        return len(self.rows_of(name))

    def has(self, name, row):
        """Returns whether a value is an answer of the question of a name."""
        self.check_name(name)
        _, names = self.questions[name]
        return is_row(self.held, len(names), row) and stands_in(self.rows_of(name), row)

    def page(self, name, number, many):
        """Returns the list of at most so many answers of a name from the one with a number on."""
        self.check_name(name)
        return page_of(self.rows_of(name), number, many)

    def each(self, name):
        """Goes through all answers of a name, in order, as they are when the first one is asked for."""
        self.check_name(name)
        rows = self.rows_of(name)
        for row in rows:
            yield row

    def told(self, text):
        """Returns whether the question of a text holds."""
        question = self.question_of(text)
        if free_names(question):
            raise InvalidQuestion(question)
        test = quick_test(self.held, Sight(self.held), question)
        return test({})

    def found_in(self, store):
        """Returns the dict of the lists of all answers of each name in a store."""
        return {name: all_answers(store, question, names) for name, (question, names) in list(self.questions.items())}

    def news_of(self, behind):
        """Returns the list of the names whose answers are others behind a change, with what they gain and lose."""
        news = []
        for name in self.questions:
            rows = self.rows_of(name)
            if behind[name] != rows:
                news.append((name, rows_not_in(behind[name], rows), rows_not_in(rows, behind[name])))
        return news

    def go_on_to(self, store):
        """Goes on to another store, and returns the news."""
        behind = self.found_in(store)
        news = self.news_of(behind)
        self.held = store
        self.found = behind
        return news

    def change_anew(self, change, store):
        """Makes a change that was not made before, which leads to a store, and returns the news."""
        news = self.go_on_to(store)
        self.standing.append(change)
        self.taken_back = []
        return news

    def edit_anew(self, edit):
        """Makes an edit, and returns the news."""
        return self.change_anew(edit, made(self.held, edit))

    def put(self, fact):
        """Puts a fact into the store, and returns the news."""
        return self.edit_anew(("put", fact))

    def take(self, fact):
        """Takes a fact out of the store, and returns the news."""
        return self.edit_anew(("take", fact))

    def add(self, item):
        """Adds an item to the store, and returns the news."""
        return self.edit_anew(("add", item))

    def drop(self, item):
        """Drops an item from the store, and returns the news."""
        return self.edit_anew(("drop", item))

    def together(self, edits, *, keep=True):
        """Makes all edits of a list as one change, or only looks what it would be, and returns the news."""
        check_edits(edits)
        if keep is not True and keep is not False:
            raise InvalidFlag(keep)
        after = all_made(self.held, edits)
        if not keep:
            return self.news_of(self.found_in(after))
        return self.change_anew((TOGETHER, list(edits)), after)

    def undo(self):
        """Takes the last change back that stands, and returns the news."""
        if not self.standing:
            raise NothingToUndo()
        change = self.standing[-1]
        news = self.go_on_to(all_made(self.held, inverse_edits(change)))
        self.taken_back.append(self.standing.pop())
        return news

    def redo(self):
        """Makes the change again that was taken back last, and returns the news."""
        if not self.taken_back:
            raise NothingToRedo()
        change = self.taken_back[-1]
        news = self.go_on_to(all_made(self.held, edits_of(change)))
        self.standing.append(self.taken_back.pop())
        return news

    def log(self):
        """Returns the list of the changes that stand, in the order in which they were made."""
        return [told_change(change) for change in self.standing]

    def copy(self):
        """Returns another base that is like this one; what is done with one of both does not change the other."""
        other = Base(self.held[1], self.held[2])
        other.held = self.held
        other.questions = {name: self.questions[name] for name in self.questions}
        other.standing = list(self.standing)
        other.taken_back = list(self.taken_back)
        return other

    def text(self):
        """Returns the text of the base: that of its store, and a line for each named question."""
        rows = []
        for name, (question, names) in list(self.questions.items()):
            head = " ".join([ASK, name, *names])
            rows.append(f"{head}: {written(question)}\n")
        return "".join([written_store(self.held), *rows])


def asked_in(line):
    """Returns the words and the text of a line of a named question, None if it has not this form."""
    head, colon, text = line.partition(":")
    words = head.split(" ")
    if colon == "" or len(words) < LEAST_ASK_WORDS or words[0] != ASK:
        return None
    return (words[1:], text) if all([is_word(word) for word in words[1:]]) else None


def lines_of_store(lines):
    """Returns how many lines stand ahead of the first one that begins with ask and a blank."""
    for number, line in enumerate(lines):
        if line.startswith(f"{ASK} "):
            return number
    return len(lines)


def read_base(text):
    """Returns the base that a text tells, with an empty log."""
    check_text(text)
    lines = text.split("\n")
    ahead = lines_of_store(lines)
    # Each of the lines ahead ends with a line end, but for the last one of the whole text.
    store = read_store("\n".join([*lines[:ahead], ""]) if ahead < len(lines) else text)
    base = Base(store[1], store[2])
    base.held = store
    for at, line in enumerate(lines[ahead:]):
        if line != "":
            asked = asked_in(line)
            if asked is None or asked[0][0] in base:
                raise InvalidText((ahead + at + 1, 1))
            words, told = asked
            base.define(words[0], told, words[1:])
    return base
