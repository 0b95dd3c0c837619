"""Answers of questions: counted, numbered and paged, and told by the types of rows."""

from depthquestions.errors import InvalidList
from depthquestions.finding import (
    Finder, all_answers, check_asked, check_asked_row, how_many_ahead, how_many_begin, is_row, page_of, row_behind,
    row_numbered)
from depthquestions.stores import check_item, check_store


def check_first(store, question, names):
    """Raises the error for the first of the first three arguments that is wrong."""
    check_store(store)
    check_asked(store, question, names)


def how_many(store, question, names):
    """Returns how many answers there are."""
    check_first(store, question, names)
    return len(all_answers(store, question, names))


def is_answer(store, question, names, value):
    """Returns whether a value is an answer."""
    check_first(store, question, names)
    if not is_row(store, len(names), value):
        return False
    return Finder(store, question, names).flag_of(value)


def number_of(store, question, names, row):
    """Returns how many answers stand ahead of a row, be it an answer or not."""
    check_first(store, question, names)
    check_asked_row(store, names, row)
    return how_many_ahead(all_answers(store, question, names), row)


def numbered(store, question, names, number):
    """Returns the answer ahead of which just so many stand."""
    check_first(store, question, names)
    return row_numbered(all_answers(store, question, names), number)


def page(store, question, names, number, many):
    """Returns the list of at most so many answers from the one with a number on, in order."""
    check_first(store, question, names)
    return page_of(all_answers(store, question, names), number, many)


def next_answer(store, question, names, row):
    """Returns the first answer behind a row, be it an answer or not, None if there is none."""
    check_first(store, question, names)
    check_asked_row(store, names, row)
    return row_behind(all_answers(store, question, names), row)


def beginning(store, question, names, item):
    """Returns how many answers begin with an item."""
    check_first(store, question, names)
    check_item(store, item)
    return how_many_begin(all_answers(store, question, names), item)


def by_types(store, question, names):
    """Returns the list of the codes of rows, in order, with how many rows have each and whether these are answers."""
    check_first(store, question, names)
    finder = Finder(store, question, names)
    return finder.types_of_one() if len(names) == 1 else finder.types_of_two()


def far_types(store, question, names):
    """Returns the list of the codes of both items of far rows, in order, with how many rows have them and the flag."""
    check_first(store, question, names)
    if len(names) == 1:
        raise InvalidList(names)
    finder = Finder(store, question, names)
    types = finder.sight.types_at(finder.deep)
    return [(types[one][0], types[other][0], many, flag) for one, other, _, many, flag in finder.far_counted()]
