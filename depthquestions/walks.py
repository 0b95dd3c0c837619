"""Going through questions, tuple by tuple, without a call for each tuple within another one."""

from depthquestions.words import is_word

QUANTIFIERS = ("some", "all")
ATOMS = ("mark", "link", "same")
LENGTHS = {
    "true": 1, "false": 1, "mark": 3, "link": 4, "same": 3,
    "not": 2, "and": 3, "or": 3, "some": 3, "all": 3,
}


def words_in(one):
    """Returns the words that stand in a tuple itself, whether they are right or not."""
    if one[0] in ATOMS:
        return list(one[1:])
    if one[0] in QUANTIFIERS:
        return [one[1]]
    return []


def names_in(one):
    """Returns the names that stand in a mark, a link or an equality, in other tuples none."""
    if one[0] == "same":
        return list(one[1:])
    if one[0] in ATOMS:
        return list(one[2:])
    return []


def parts(one):
    """Returns the parts of a tuple, as they stand."""
    if one[0] in QUANTIFIERS:
        return [one[2]]
    if one[0] in ("not", "and", "or"):
        return list(one[1:])
    return []


def is_formed(value):
    """Returns whether a value has one of the forms of a question, whatever stands behind its first string."""
    if not isinstance(value, tuple) or len(value) == 0 or not isinstance(value[0], str):
        return False
    return value[0] in LENGTHS and len(value) == LENGTHS[value[0]]


def wrong_itself(value, around):
    """Returns what is wrong with a tuple itself within quantifiers that bind the names around it, None if nothing."""
    if not is_formed(value):
        return "form"
    if not all([is_word(word) for word in words_in(value)]):
        return "word"
    if value[0] in QUANTIFIERS and value[1] in around:
        return "bound"
    return None


def walked(value):
    """Returns what is looked at, each ahead of what is within it, up to the first that is wrong itself, and why it is.

    Of each the list has the tuple, its place, and the names that quantifiers around it bind, from without.
    """
    seen = []
    waiting = [(value, (), ())]
    while waiting:
        one, place, around = waiting.pop()
        seen.append((one, place, around))
        why = wrong_itself(one, around)
        if why is not None:
            return seen, why
        inner = (*around, one[1]) if one[0] in QUANTIFIERS else around
        steps = [(part, (*place, at), inner) for at, part in enumerate(parts(one))]
        waiting.extend(steps[::-1])
    return seen, None


def parts_first(question):
    """Returns the list of all tuples of a question, each behind its parts, the first of them with all in it ahead."""
    seen = []
    waiting = [question]
    while waiting:
        one = waiting.pop()
        seen.append(one)
        waiting.extend(parts(one))
    return seen[::-1]


def folded(question, make):
    """Makes something of each tuple of a question, from within, and returns what is made of the whole.

    It is made of the tuple, of the names that quantifiers around it bind, and of the list of what is made of its parts.
    """
    made = []
    seen, _ = walked(question)
    for one, _, around in reversed(seen):
        # Behind each tuple came its parts, the first one first; so the first one's result is on top here.
        inner = [made.pop() for _ in parts(one)]
        made.append(make(one, around, inner))
    return made[0]
