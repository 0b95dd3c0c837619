"""Answers kept through edits: a store whose codes are reckoned again only where an edit is near."""

from depthquestions.balls import reached, table_of
from depthquestions.codes import code_at
from depthquestions.deeds import INVERSES, is_edit, made, remade
from depthquestions.errors import InvalidList, InvalidQuestion, NothingToRedo, NothingToUndo, TooMany
from depthquestions.finding import (
    all_answers, check_asked, check_asked_row, how_many_ahead, how_many_begin, is_row, page_of, row_behind,
    row_numbered, rows_not_in, stands_in)
from depthquestions.questions import depth_in, is_question, seen_in
from depthquestions.radii import reach_of
from depthquestions.stores import check_between, check_item, check_store
from depthquestions.texts import written

MOST_KEPT_DEPTH = 2
MOST_ROWS_TOLD = 2000


def items_near(store, edit, reach):
    """Returns the dict of the items near to those of an edit, in a store that has these items or not."""
    word, value = edit
    if word in ("add", "drop"):
        return {value: 0} if value in store[3] else {}
    return reached(table_of(store), value[2:], reach)


def check_edit(edit):
    """Raises the error for what must have the form of an edit and has not."""
    if not is_edit(edit):
        raise InvalidList(edit)


class Kept:
    """A store, with the code of the radius of a depth for each of its items."""

    def __init__(self, store, depth):
        check_store(store)
        check_between(depth, 0, MOST_KEPT_DEPTH)
        self.held = remade(store, store[3], store[4])
        self.deep = depth
        table = table_of(store)
        self.codes = {item: code_at(table, (item,), reach_of(depth)) for item in store[3]}
        self.reckoned = len(self.codes)
        self.standing = []
        self.taken_back = []
        self.found = {}

    def store(self):
        """Returns the store as it is now."""
        return remade(self.held, self.held[3], self.held[4])

    def deepest(self):
        """Returns the depth to which questions are answered."""
        return self.deep

    def type_of(self, item):
        """Returns the code of an item."""
        check_item(self.held, item)
        return self.codes[item]

    def type_counts(self):
        """Returns the list of the codes that items have, in order, each with how many have it."""
        counts = {}
        for code in list(self.codes.values()):
            counts[code] = counts.get(code, 0) + 1
        return [(code, counts[code]) for code in sorted(counts)]

    def typed(self):
        """Returns how many codes were reckoned so far."""
        return self.reckoned

    def carry_out(self, edit):
        """Makes an edit, and returns the list of the items whose code is another one behind it, in order."""
        after = made(self.held, edit)
        reach = reach_of(self.deep)
        near = {**items_near(self.held, edit, reach), **items_near(after, edit, reach)}
        self.held = after
        self.found = {}
        if edit[0] == "drop":
            del self.codes[edit[1]]
            return []
        return self.reckon(sorted(near))

    def reckon(self, items):
        """Reckons the codes of some items anew, and returns the list of those whose code is another one then."""
        table = table_of(self.held)
        changed = []
        for item in items:
            code = code_at(table, (item,), reach_of(self.deep))
            if self.codes.get(item) != code:
                changed.append(item)
            self.codes[item] = code
        self.reckoned += len(items)
        return changed

    def edit_anew(self, edit):
        """Makes an edit that was not made before, and returns the list of the items whose code is another one."""
        changed = self.carry_out(edit)
        self.standing.append(edit)
        self.taken_back = []
        return changed

    def put_in(self, fact):
        """Puts a fact into the store, and returns the list of the items whose code is another one."""
        return self.edit_anew(("put", fact))

    def take_out(self, fact):
        """Takes a fact out of the store, and returns the list of the items whose code is another one."""
        return self.edit_anew(("take", fact))

    def add(self, item):
        """Adds an item to the store, and returns the list of it."""
        return self.edit_anew(("add", item))

    def drop(self, item):
        """Drops an item from the store, and returns the list without items."""
        return self.edit_anew(("drop", item))

    def undo(self):
        """Takes the last edit back that stands, and returns the list of the items whose code is another one."""
        if not self.standing:
            raise NothingToUndo()
        edit = self.standing.pop()
        self.taken_back.append(edit)
        return self.carry_out((INVERSES[edit[0]], edit[1]))

    def redo(self):
        """Makes the edit again that was taken back last, and returns the list of the items whose code is another."""
        if not self.taken_back:
            raise NothingToRedo()
        edit = self.taken_back.pop()
        self.standing.append(edit)
        return self.carry_out(edit)

    def log(self):
        """Returns the list of the edits that stand, in the order in which they were made."""
        return list(self.standing)

    def copy(self):
        """Returns another one that is like this one; what is done with one of both does not change the other."""
        other = Kept(self.held, self.deep)
        other.reckoned = self.reckoned
        other.standing = list(self.standing)
        other.taken_back = list(self.taken_back)
        return other

    def __eq__(self, other):
        return isinstance(other, Kept) and self.held == other.held and self.deep == other.deep

    def check(self, question, names):
        """Raises the error for the first of a question and names that is wrong."""
        if is_question(question) and depth_in(seen_in(question)) > self.deep:
            raise InvalidQuestion(question)
        check_asked(self.held, question, names)

    def rows_of(self, question, names):
        """Returns the list of all answers as they are now; it is found once and kept up to the next edit."""
        key = (written(question), *names)
        if key not in self.found:
            self.found[key] = all_answers(self.held, question, names)
        return self.found[key]

    def count(self, question, names):
        """Returns how many answers there are now."""
        self.check(question, names)
        return len(self.rows_of(question, names))

    def has(self, question, names, value):
        """Returns whether a value is an answer now."""
        self.check(question, names)
        return is_row(self.held, len(names), value) and stands_in(self.rows_of(question, names), value)

    def rank(self, question, names, row):
        """Returns how many answers stand ahead of a row now."""
        self.check(question, names)
        check_asked_row(self.held, names, row)
        return how_many_ahead(self.rows_of(question, names), row)

    def at(self, question, names, number):
        """Returns the answer ahead of which just so many stand now."""
        self.check(question, names)
        return row_numbered(self.rows_of(question, names), number)

    def pages(self, question, names, number, many):
        """Returns the list of at most so many answers from the one with a number on, as they are now."""
        self.check(question, names)
        return page_of(self.rows_of(question, names), number, many)

    def behind(self, question, names, row):
        """Returns the first answer behind a row now, None if there is none."""
        self.check(question, names)
        check_asked_row(self.held, names, row)
        return row_behind(self.rows_of(question, names), row)

    def begun(self, question, names, item):
        """Returns how many answers begin with an item now."""
        self.check(question, names)
        check_item(self.held, item)
        return how_many_begin(self.rows_of(question, names), item)

    def rows_behind(self, question, names, edit):
        """Returns the list of all answers as they would be behind an edit."""
        self.check(question, names)
        check_edit(edit)
        return all_answers(made(self.held, edit), question, names)

    def gained(self, question, names, edit):
        """Returns the list of the rows that would be answers behind an edit and are none now, in order."""
        behind = self.rows_behind(question, names, edit)
        return told_rows(rows_not_in(behind, self.rows_of(question, names)))

    def lost(self, question, names, edit):
        """Returns the list of the rows that are answers now and would be none behind an edit, in order."""
        behind = self.rows_behind(question, names, edit)
        return told_rows(rows_not_in(self.rows_of(question, names), behind))


def told_rows(rows):
    """Returns a list of rows, unless they are too many to be told."""
    if len(rows) > MOST_ROWS_TOLD:
        raise TooMany(len(rows))
    return rows
