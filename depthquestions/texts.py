"""Texts of questions and of stores: read, looked through for what is wrong, and written."""

from depthquestions.errors import InvalidStore, InvalidText
from depthquestions.questions import check_question
from depthquestions.scanning import END, QUESTION_STEPS, STORE_STEPS, tokens_of, wrong_place
from depthquestions.stores import check_store, is_store
from depthquestions.walks import folded
from depthquestions.words import is_word

# How loosely the text of a question holds together: what is looser than the table asks for gets parentheses.
PART = 0
BOTH = 1
QUESTION = 2


def check_text(text):
    """Raises the error for what must be a string and is none."""
    if not isinstance(text, str):
        raise InvalidText(text)


def wrong_at(text):
    """Returns the place of the first wrong token of the text of a question, None if there is none."""
    check_text(text)
    return wrong_place(tokens_of(text), dict(QUESTION_STEPS))


def store_wrong_at(text):
    """Returns the place of the first wrong token of the text of a store, None if there is none."""
    check_text(text)
    return wrong_place(tokens_of(text), dict(STORE_STEPS))


def signs_of(text, place):
    """Returns the tokens of a text, the end among them, unless a place is told at which it is wrong."""
    if place is not None:
        raise InvalidText(place)
    return [sign for sign, _ in tokens_of(text)]


def piece_at(found, at):
    """Returns the piece of a question that stands at a place among the tokens, and how many tokens it has."""
    word = found[at]
    if word in ("some", "all"):
        return (word, found[at + 1]), 3
    if not is_word(word):
        return (word,), 1
    if found[at + 1] == "=":
        return ("same", word, found[at + 2]), 3
    if found[at + 3] == ")":
        return ("mark", word, found[at + 2]), 4
    return ("link", word, found[at + 2], found[at + 4]), 6


def pieces_of(found):
    """Returns the pieces of a question, in the order of its tokens: tuples that are whole, and such as lack a part."""
    pieces = []
    at = 0
    while found[at] != END:
        piece, size = piece_at(found, at)
        pieces.append(piece)
        at += size
    return pieces


def filled(waiting, words, part):
    """Takes what waits last for a part off the list as long as it begins with these words, and returns it filled."""
    while waiting and waiting[-1][0] in words:
        opening = waiting.pop()
        part = (*opening, part)
    return part


def question_of(pieces):
    """Returns the tuple that the pieces of a right text tell."""
    waiting = [("(",)]
    part = None
    for piece in [*pieces, (")",)]:
        if piece[0] in ("not", "some", "all", "("):
            waiting.append(piece)
            continue
        if piece[0] in ("or", ")"):
            part = filled(waiting, ("or",), part)
        if piece[0] in ("and", "or"):
            waiting.append((piece[0], part))
            continue
        if piece[0] == ")":
            waiting.pop()
        else:
            part = piece
        part = filled(waiting, ("not", "some", "all", "and"), part)
    return part


def read_question(text):
    """Returns the tuple that a text tells."""
    return question_of(pieces_of(signs_of(text, wrong_at(text))))


def rows_of(found):
    """Returns the lists of the tokens ahead of each semicolon, back to the one before it."""
    rows = [[]]
    for sign in found:
        if sign == ";":
            rows.append([])
        else:
            rows[-1].append(sign)
    return rows[:-1]


def listed(row):
    """Returns what is listed in a row behind its first word."""
    return [sign for sign in row[1:] if sign != ","]


def fact_of(row):
    """Returns the fact that a row tells."""
    if len(row) == 4:
        return ("mark", row[0], int(row[2]))
    return ("link", row[0], int(row[2]), int(row[4]))


def read_store(text):
    """Returns the store that a text tells."""
    rows = rows_of(signs_of(text, store_wrong_at(text)))
    items = sorted([int(sign) for sign in listed(rows[2])])
    facts = sorted([fact_of(row) for row in rows[3:]])
    store = ("store", listed(rows[0]), listed(rows[1]), items, facts)
    if not is_store(store):
        raise InvalidStore(store)
    return store


def enclosed(spelling, loosest):
    """Returns the text of a part, in parentheses if it is looser than the loosest that may stand there."""
    text, looseness = spelling
    return text if looseness <= loosest else f"({text})"


def spelled(one, _, inner):
    """Returns the text of a tuple and how loose it is, by those of its parts."""
    word = one[0]
    if word == "mark":
        return f"{one[1]}({one[2]})", PART
    if word == "link":
        return f"{one[1]}({one[2]}, {one[3]})", PART
    if word == "same":
        return f"{one[1]} = {one[2]}", PART
    if word == "not":
        return f"not {enclosed(inner[0], PART)}", PART
    if word in ("some", "all"):
        return f"{word} {one[1]}: {enclosed(inner[0], PART)}", PART
    if word == "and":
        return f"{enclosed(inner[0], BOTH)} and {enclosed(inner[1], PART)}", BOTH
    if word == "or":
        return f"{enclosed(inner[0], QUESTION)} or {enclosed(inner[1], BOTH)}", QUESTION
    return word, PART


def written(question):
    """Returns the text of a question."""
    check_question(question)
    text, _ = folded(question, spelled)
    return text


def written_row(word, values):
    """Returns the row of a word and of what is listed behind it."""
    told = ",".join([f" {value}" for value in values])
    return f"{word}{told};\n"


def written_fact(fact):
    """Returns the row of a fact."""
    told = ", ".join([str(item) for item in fact[2:]])
    return f"{fact[1]}({told});\n"


def written_store(store):
    """Returns the text of a store."""
    check_store(store)
    _, marks, columns, items, facts = store
    head = [written_row("marks", marks), written_row("columns", columns), written_row("items", items)]
    return "".join([*head, *[written_fact(fact) for fact in facts]])
