"""Finding the answers of a question in a store: rows of one type are all answers or none, so one of each is asked."""

from depthquestions.asking import quick_test
from depthquestions.codes import code_at
from depthquestions.errors import InvalidItem, InvalidList, InvalidNumber, InvalidQuestion
from depthquestions.looking import Sight, first_outside
from depthquestions.plain import are_names_for
from depthquestions.questions import depth_in, is_question_of, seen_in
from depthquestions.radii import reach_of
from depthquestions.stores import check_between, is_between, is_item
from depthquestions.walks import QUANTIFIERS

MOST_ASKED_NAMES = 2
MOST_ON_PAGE = 1000


def are_names_asked(question, value):
    """Returns whether a value is a list of one or two unlike words with all free names of a question, no bound one."""
    if not are_names_for(question, value) or not 1 <= len(value) <= MOST_ASKED_NAMES:
        return False
    return not any([one[0] in QUANTIFIERS and one[1] in value for one, _, _ in seen_in(question)])


def check_asked(store, question, names):
    """Raises the error for a question or names that are wrong, of a store that is known to be one."""
    if not is_question_of(store[1], store[2], question):
        raise InvalidQuestion(question)
    if not are_names_asked(question, names):
        raise InvalidList(names)


def is_row(store, many, value):
    """Returns whether a value is a tuple of so many items of a store."""
    return isinstance(value, tuple) and len(value) == many and all([is_item(store, item) for item in value])


def check_asked_row(store, names, row):
    """Raises the error for what must be a row of items for some names and is none."""
    if not is_row(store, len(names), row):
        raise InvalidItem(row)


class Finder:
    """A question asked of a store with items for its names."""

    def __init__(self, store, question, names):
        self.names = list(names)
        self.all_items = list(store[3])
        self.deep = depth_in(seen_in(question))
        self.sight = Sight(store)
        self.test = quick_test(store, self.sight, question)

    def flag_of(self, row):
        """Returns whether a row is an answer."""
        test = self.test
        return test(dict(zip(self.names, row)))

    def code_of_row(self, row):
        """Returns the code of a row with the radius of the depth of the question."""
        return code_at(self.sight.table, row, reach_of(self.deep))

    def near_rows(self):
        """Returns the list of the pairs of items that are not far from one another."""
        return [(one, other) for one in self.all_items for other in self.sight.near_to(one, self.deep)]

    def near_codes(self):
        """Returns the dict of the codes of near rows, each with the list of its rows."""
        found = {}
        for row in self.near_rows():
            found.setdefault(self.code_of_row(row), []).append(row)
        return found

    def first_far(self, ones, others):
        """Returns the first row of two items of two lists that are far from one another, None if there is none."""
        for one in ones:
            other = first_outside(self.sight.near_to(one, self.deep), others)
            if other is not None:
                return (one, other)
        return None

    def far_rows(self):
        """Returns the list of the numbers of two types and of a far row that has them, for all that far rows have."""
        found = []
        rows = list(enumerate(self.sight.types_at(self.deep)))
        for number, (_, ones) in rows:
            for second, (_, others) in rows:
                row = self.first_far(ones, others)
                if row is not None:
                    found.append((number, second, row))
        return found

    def near_counts(self):
        """Returns the dict of how many near rows have the numbers of two types."""
        numbers = self.sight.numbers_at(self.deep)
        counts = {}
        for one, other in self.near_rows():
            key = (numbers[one], numbers[other])
            counts[key] = counts.get(key, 0) + 1
        return counts

    def far_counted(self):
        """Returns the list of far_rows, each with how many far rows have its types, and whether it is an answer."""
        sizes = [len(items) for _, items in self.sight.types_at(self.deep)]
        near = self.near_counts()
        return [
            (one, other, row, sizes[one] * sizes[other] - near.get((one, other), 0), self.flag_of(row))
            for one, other, row in self.far_rows()]

    def types_of_one(self):
        """Returns what by_types returns for one name."""
        rows = self.sight.types_at(self.deep)
        return [(code, len(items), self.flag_of((items[0],))) for code, items in rows]

    def types_of_two(self):
        """Returns what by_types returns for two names."""
        near = self.near_codes()
        found = [(code, len(near[code]), self.flag_of(near[code][0])) for code in near]
        found.extend([(self.code_of_row(row), many, flag) for _, _, row, many, flag in self.far_counted()])
        return sorted(found)

    def answers_of_one(self):
        """Returns the list of all answers for one name, in order."""
        rows = [items for _, items in self.sight.types_at(self.deep) if self.flag_of((items[0],))]
        return sorted([(item,) for items in rows for item in items])

    def answers_of_two(self):
        """Returns the list of all answers for two names, in order."""
        numbers = self.sight.numbers_at(self.deep)
        far = {(one, other): self.flag_of(row) for one, other, row in self.far_rows()}
        near = {}
        for rows in list(self.near_codes().values()):
            flag = self.flag_of(rows[0])
            for row in rows:
                near[row] = flag
        found = []
        for one in self.all_items:
            around = self.sight.near_to(one, self.deep)
            number = numbers[one]
            found.extend([
                (one, other) for other in self.all_items
                if (near[(one, other)] if other in around else far[(number, numbers[other])])])
        return found


def all_answers(store, question, names):
    """Returns the list of all answers of a question, in order."""
    finder = Finder(store, question, names)
    return finder.answers_of_one() if len(names) == 1 else finder.answers_of_two()


def how_many_ahead(rows, row):
    """Returns how many of the rows of a list, which are in order, are less than a row."""
    low, high = 0, len(rows)
    while low < high:
        middle = (low + high) // 2
        if rows[middle] < row:
            low = middle + 1
        else:
            high = middle
    return low


def stands_in(rows, row):
    """Returns whether a row stands in a list of rows, which are in order."""
    at = how_many_ahead(rows, row)
    return at < len(rows) and rows[at] == row


def row_numbered(rows, number):
    """Returns the row with a number."""
    if not is_between(number, 0, len(rows) - 1):
        raise InvalidNumber(number)
    return rows[number]


def page_of(rows, number, many):
    """Returns the list of at most so many rows from the one with a number on."""
    check_between(number, 0, len(rows))
    check_between(many, 0, MOST_ON_PAGE)
    return rows[number:number + many]


def row_behind(rows, row):
    """Returns the first of the rows of a list that is greater than a row, None if there is none."""
    at = how_many_ahead(rows, row)
    if at < len(rows) and rows[at] == row:
        at += 1
    return rows[at] if at < len(rows) else None


def how_many_begin(rows, item):
    """Returns how many rows of a list, which are in order, begin with an item."""
    # Rows that are shorter stand ahead of longer ones that begin like them, and items are whole numbers.
    return how_many_ahead(rows, (item + 1,)) - how_many_ahead(rows, (item,))


def rows_not_in(rows, others):
    """Returns the list of the rows of a list that do not stand in another one."""
    known = {row: True for row in others}
    return [row for row in rows if row not in known]
