"""Unions of told pieces: what holds in so many copies of each, side by side, with nothing between."""

from depthquestions.asking import quick_test
from depthquestions.errors import InvalidList, InvalidNumber, InvalidQuestion, TooMany
from depthquestions.looking import Sight
from depthquestions.plain import are_names_for, rows_of_items
from depthquestions.questions import depth_in, free_names, is_question_of, seen_in
from depthquestions.stores import MOST_ITEMS, is_between, is_store

MOST_PIECES = 3
MOST_PIECE_ITEMS = 4
MOST_COPIES = 10 ** 30 - 1
MOST_UNIONS = 50
MOST_UNION_NAMES = 2


def are_pieces(value):
    """Returns whether a value is a list of one to three small stores with equal marks and equal columns."""
    if not isinstance(value, list) or not 1 <= len(value) <= MOST_PIECES:
        return False
    if not all([is_store(piece) and len(piece[3]) <= MOST_PIECE_ITEMS for piece in value]):
        return False
    return all([piece[1:3] == value[0][1:3] for piece in value])


def check_pieces(pieces):
    """Raises the error for what must be pieces and are none."""
    if not are_pieces(pieces):
        raise InvalidList(pieces)


def check_counts(pieces, counts):
    """Raises the error for what must be a list of a number of copies for each piece and is none."""
    if not isinstance(counts, list) or len(counts) != len(pieces):
        raise InvalidList(counts)
    if not all([is_between(count, 0, MOST_COPIES) for count in counts]):
        raise InvalidList(counts)


def check_question_of_pieces(pieces, question):
    """Raises the error for what must be a question of the pieces and is none."""
    _, marks, columns, _, _ = pieces[0]
    if not is_question_of(marks, columns, question):
        raise InvalidQuestion(question)


def check_closed(pieces, question):
    """Raises the error for what must be a question of the pieces without free names and is none."""
    check_question_of_pieces(pieces, question)
    if free_names(question):
        raise InvalidQuestion(question)


def items_of_union(pieces, counts):
    """Returns how many items a union has."""
    return sum([count * len(piece[3]) for piece, count in zip(pieces, counts)])


def facts_of_copy(piece, first):
    """Returns the list of the facts of a copy of a piece whose items are counted from a first one on."""
    numbers = {item: first + at for at, item in enumerate(piece[3])}
    return [(*fact[:2], *[numbers[item] for item in fact[2:]]) for fact in piece[4]]


def united(pieces, counts):
    """Returns the store of a union; a piece without items may have any number of copies."""
    facts = []
    first = 0
    for piece, count in zip(pieces, counts):
        if piece[3]:
            for _ in range(count):
                facts.extend(facts_of_copy(piece, first))
                first += len(piece[3])
    return ("store", list(pieces[0][1]), list(pieces[0][2]), list(range(first)), sorted(facts))


def cut_counts(counts, most):
    """Returns the list of counts, with the most one for each that is greater."""
    return [min(count, most) for count in counts]


def test_in_union(question, pieces, counts):
    """Returns the test of a question in a union."""
    store = united(pieces, counts)
    return quick_test(store, Sight(store), question)


def union(pieces, counts):
    """Returns the store of a union: its items are counted from 0, piece by piece, copy by copy."""
    check_pieces(pieces)
    check_counts(pieces, counts)
    many = items_of_union(pieces, counts)
    if many > MOST_ITEMS:
        raise TooMany(many)
    return united(pieces, counts)


def depth_of(question):
    """Returns the depth of what is known to be a question."""
    return depth_in(seen_in(question))


def holds_for_counts(question, pieces, counts):
    """Returns whether a question holds in a union: copies above its depth change nothing."""
    test = test_in_union(question, pieces, cut_counts(counts, depth_of(question)))
    return test({})


def holds_in_union(question, pieces, counts):
    """Returns whether a question holds in a union, however many items it has."""
    check_pieces(pieces)
    check_closed(pieces, question)
    check_counts(pieces, counts)
    return holds_for_counts(question, pieces, counts)


def check_unions(pieces, depth):
    """Raises the error for what asks for more unions than are gone through, with numbers up to a depth."""
    many = 1
    for _ in pieces:
        many = many * (depth + 1)
    if many > MOST_UNIONS:
        raise TooMany(many)


def all_counts(pieces, depth):
    """Returns the list, in order, of the tuples of a number up to a depth for each piece."""
    return rows_of_items(list(range(depth + 1)), len(pieces))


def cuts_of(question, pieces, depth):
    """Returns the list of the tuples of numbers up to a depth for which a question holds, in order."""
    return [row for row in all_counts(pieces, depth) if holds_for_counts(question, pieces, row)]


def cuts(question, pieces):
    """Returns the list, in order, of the tuples of numbers up to the depth for which a question holds."""
    check_pieces(pieces)
    check_closed(pieces, question)
    deep = depth_of(question)
    check_unions(pieces, deep)
    return cuts_of(question, pieces, deep)


def enough(question, pieces, at):
    """Returns from how many copies of a piece on more of them change nothing, whatever the other counts are."""
    check_pieces(pieces)
    check_closed(pieces, question)
    if not is_between(at, 0, len(pieces) - 1):
        raise InvalidNumber(at)
    deep = depth_of(question)
    check_unions(pieces, deep)
    found = cuts_of(question, pieces, deep)
    # What holds with so many copies of the piece, told by the counts of the others.
    rows = [[(*row[:at], *row[at + 1:]) for row in found if row[at] == count] for count in range(deep + 1)]
    least = deep
    while least > 0 and rows[least - 1] == rows[deep]:
        least -= 1
    return least


def parting_counts(one, other, pieces):
    """Returns the counts of a least union in which just one of two questions holds, None if there is none."""
    check_pieces(pieces)
    check_closed(pieces, one)
    check_closed(pieces, other)
    deep = max(depth_of(one), depth_of(other))
    check_unions(pieces, deep)
    rows = sorted([(items_of_union(pieces, row), row) for row in all_counts(pieces, deep)])
    for _, row in rows:
        if holds_for_counts(one, pieces, row) != holds_for_counts(other, pieces, row):
            return list(row)
    return None


def check_union_names(question, names):
    """Raises the error for what must be one or two names with all free ones of a question and are not."""
    if not are_names_for(question, names) or not 1 <= len(names) <= MOST_UNION_NAMES:
        raise InvalidList(names)


def first_copies(pieces, counts):
    """Returns the list of the items of the first copy of each piece in a union, each with the place of the piece."""
    found = []
    first = 0
    for place, (piece, count) in enumerate(zip(pieces, counts)):
        size = len(piece[3])
        if count > 0:
            found.extend([(first + at, place) for at in range(size)])
        first += size * count
    return found


def weighed_pairs(pieces, counts, firsts):
    """Returns the list of rows of two items, each with how many rows of the union with these counts are like it.

    The first item is in the first copy of its piece; the second one is there, too, or in the second copy, or in the
    first copy of another piece.
    """
    found = []
    for one, place in firsts:
        size = len(pieces[place][3])
        for other, second in firsts:
            if place != second:
                found.append(((one, other), counts[place] * counts[second]))
                continue
            found.append(((one, other), counts[place]))
            if counts[place] > 1:
                found.append(((one, other + size), counts[place] * (counts[place] - 1)))
    return found


def weighed_rows(pieces, counts, firsts, many):
    """Returns the list of rows of so many items, each with how many rows of the union with these counts are like it."""
    if many == 1:
        return [((item,), counts[place]) for item, place in firsts]
    return weighed_pairs(pieces, counts, firsts)


def how_many_in_union(question, names, pieces, counts):
    """Returns how many rows of items for one or two names are answers of a question in a union."""
    check_pieces(pieces)
    check_question_of_pieces(pieces, question)
    check_union_names(question, names)
    check_counts(pieces, counts)
    cut = cut_counts(counts, depth_of(question) + len(names))
    test = test_in_union(question, pieces, cut)
    rows = weighed_rows(pieces, counts, first_copies(pieces, cut), len(names))
    return sum([weight for row, weight in rows if test(dict(zip(names, row)))])
