"""Questions: what they are, what stands in them, and the same question in other forms."""

from depthquestions.errors import InvalidQuestion
from depthquestions.walks import ATOMS, QUANTIFIERS, folded, names_in, walked
from depthquestions.words import LETTERS, is_word

TRUE = ("true",)
FALSE = ("false",)
CONTRARY = {"and": "or", "or": "and", "some": "all", "all": "some", "true": "false", "false": "true"}


def names_free_in(seen):
    """Returns the dict whose keys are the names that are free in a question of which all was looked at."""
    return {name: True for one, _, around in seen for name in names_in(one) if name not in around}


def first_wrong(value):
    """Returns the place and the reason of what is wrong first with a value, None if it is a question."""
    seen, why = walked(value)
    if why is not None:
        return (seen[-1][1], why)
    free = names_free_in(seen)
    for one, place, _ in seen:
        if one[0] in QUANTIFIERS and one[1] in free:
            return (place, "free")
    return None


def is_question(value):
    """Returns whether a value is a question."""
    return first_wrong(value) is None


def check_question(question):
    """Raises the error for what must be a question and is none."""
    if not is_question(question):
        raise InvalidQuestion(question)


def seen_in(question):
    """Returns all that is looked at in what must be a question."""
    check_question(question)
    seen, _ = walked(question)
    return seen


def free_names(question):
    """Returns the list of the free names of a question, in order."""
    return sorted(names_free_in(seen_in(question)))


def depth_in(seen):
    """Returns the depth of a question of which all was looked at."""
    return max([len(around) + 1 for one, _, around in seen if one[0] in QUANTIFIERS], default=0)


def depth(question):
    """Returns how many quantifiers of a question stand within one another at most."""
    return depth_in(seen_in(question))


def level_of(one):
    """Returns the level of a quantifier: the depth of the question within it."""
    return depth_in(seen_in(one[2]))


def others_of(one):
    """Returns the list of the others of a quantifier: the free names of the question within it, but for its own."""
    return [name for name in free_names(one[2]) if name != one[1]]


def signs(question):
    """Returns the lists of the marks and of the columns that stand in a question, in order."""
    ones = [row[0] for row in seen_in(question)]
    marks = {one[1] for one in ones if one[0] == "mark"}
    columns = {one[1] for one in ones if one[0] == "link"}
    return (sorted(marks), sorted(columns))


def is_question_of(marks, columns, value):
    """Returns whether a value is a question with no other marks and columns than these."""
    if not is_question(value):
        return False
    own_marks, own_columns = signs(value)
    return all([mark in marks for mark in own_marks]) and all([column in columns for column in own_columns])


def letters_at(number):
    """Returns the string with a number among all strings of letters, a shorter one ahead of a longer one."""
    text = ""
    rest = number + 1
    while rest > 0:
        text = LETTERS[(rest - 1) % len(LETTERS)] + text
        rest = (rest - 1) // len(LETTERS)
    return text


def words_of_letters(many, taken):
    """Returns so many of the first words of letters that are not taken."""
    found = []
    number = 0
    while len(found) < many:
        word = letters_at(number)
        if is_word(word) and word not in taken:
            found.append(word)
        number += 1
    return found


def renamed_part(one, around, inner, words):
    """Returns a tuple in which each bound name is the word with the number of the quantifiers around its own."""
    if one[0] in QUANTIFIERS:
        return (one[0], words[len(around)], *inner)
    if one[0] in ATOMS:
        names = names_in(one)
        others = [words[around.index(name)] if name in around else name for name in names]
        return (*one[:len(one) - len(names)], *others)
    return (one[0], *inner)


def renamed(question):
    """Returns the question with the first words of letters for its bound names."""
    words = words_of_letters(depth(question), free_names(question))
    return folded(question, lambda one, around, inner: renamed_part(one, around, inner, words))


def are_alike(one, other):
    """Returns whether two questions differ in the names of their bound names alone."""
    check_question(one)
    check_question(other)
    return renamed(one) == renamed(other)


def turned_both_ways(one, _, inner):
    """Returns the tuple and its contrary, both without a not but before marks, links and equalities."""
    if one[0] == "not":
        straight, contrary = inner[0]
        return (contrary, straight)
    if one[0] in ATOMS:
        return (one, ("not", one))
    name = one[1:2] if one[0] in QUANTIFIERS else ()
    straight_parts = [pair[0] for pair in inner]
    contrary_parts = [pair[1] for pair in inner]
    return ((one[0], *name, *straight_parts), (CONTRARY[one[0]], *name, *contrary_parts))


def inward(question):
    """Returns the question in which each not is pushed inward."""
    check_question(question)
    straight, _ = folded(question, turned_both_ways)
    return straight


def plainer_not(part):
    """Returns the contrary of a plainer part."""
    if part in (TRUE, FALSE):
        return (CONTRARY[part[0]],)
    if part[0] == "not":
        return part[1]
    return ("not", part)


def plainer_pair(word, one, other):
    """Returns the and or the or of two plainer parts."""
    idle, strong = (TRUE, FALSE) if word == "and" else (FALSE, TRUE)
    if one == strong or other == strong:
        return strong
    if one == idle:
        return other
    if other == idle:
        return one
    return (word, one, other)


def plainer_part(one, _, inner):
    """Returns what a tuple becomes whose parts are plainer already."""
    if one[0] == "same" and one[1] == one[2]:
        return TRUE
    if one[0] == "not":
        return plainer_not(inner[0])
    if one[0] in ("and", "or"):
        return plainer_pair(one[0], inner[0], inner[1])
    if one[0] not in QUANTIFIERS:
        return one
    # In a store without items some holds never and all always: the other two cases must stay.
    if (one[0], inner[0]) in (("some", FALSE), ("all", TRUE)):
        return inner[0]
    return (one[0], one[1], inner[0])


def plainer(question):
    """Returns the question without what true, false, pairs of not and equalities of one name with itself make idle."""
    check_question(question)
    return folded(question, plainer_part)
