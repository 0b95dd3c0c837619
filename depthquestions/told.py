"""Papers for answers: what shows that a question holds, or that it does not."""

from depthquestions.errors import InvalidFlag
from depthquestions.looking import Sight, check_looked
from depthquestions.plain import atom_test
from depthquestions.questions import level_of, seen_in
from depthquestions.stores import is_between, is_whole
from depthquestions.walks import QUANTIFIERS, folded, parts

# What tells of a part is a function of what is bound, and returns the flag of the part and a paper for it. No paper
# with lists is kept, as no list may occur twice in a result.


def told_of_atom(test):
    """Returns what tells of a question without parts, by its test."""
    return lambda bound: (test(bound), ())


def told_of_not(inner):
    """Returns what tells of a not, by what tells of its part."""
    def told(bound):
        flag, paper = inner(bound)
        return (not flag, paper)
    return told


def told_of_pair(one, other, both):
    """Returns what tells of an and or an or, where both is the flag for which both parts are needed."""
    def told(bound):
        flag, paper = one(bound)
        if flag != both:
            return (flag, (0, paper))
        flag, second = other(bound)
        if flag != both:
            return (flag, (1, second))
        return (both, (paper, second))
    return told


def told_of_quantifier(looked, name, inner, sought):
    """Returns what tells of a quantifier, where sought is the flag for which one item is enough."""
    def told(bound):
        rows = []
        for item in looked(bound):
            bound[name] = item
            flag, paper = inner(bound)
            if flag == sought:
                return (sought, (item, paper))
            rows.append((item, paper))
        return (not sought, rows)
    return told


def told_of_joined(one, inner):
    """Returns what tells of a not, an and or an or, by what tells of its parts."""
    if one[0] == "not":
        return told_of_not(inner[0])
    return told_of_pair(inner[0], inner[1], one[0] == "and")


def flag_of(one):
    """Returns what tells of a question without parts, if instead of items the flags of such questions are bound."""
    return told_of_atom(lambda flags: flags[one])


def told_of_flat(store, question):
    """Returns what tells of a question without quantifiers.

    Such questions are asked most often. Their papers hang on the flags of their atoms alone and have no lists, so one
    paper stands wherever these flags are the same.
    """
    tests = {one: atom_test(store, one) for one, _, _ in seen_in(question) if not parts(one)}
    told = folded(question, lambda one, _, inner: told_of_joined(one, inner) if inner else flag_of(one))
    kept = {}

    def told_once(bound):
        flags = tuple([test(bound) for test in tests.values()])
        if flags not in kept:
            kept[flags] = told(dict(zip(tests, flags)))
        return kept[flags]
    return told_once


def told_of_part(store, sight, one, inner):
    """Returns what tells of a question, by what tells of its parts."""
    if one[0] in QUANTIFIERS:
        within = told_of_flat(store, one[2]) if level_of(one) == 0 else inner[0]
        return told_of_quantifier(sight.all_looks_of(one), one[1], within, one[0] == "some")
    return told_of_joined(one, inner) if inner else told_of_atom(atom_test(store, one))


def told_by(store, question, binding):
    """Returns what a question tells, and a paper for it."""
    check_looked(store, question, binding)
    sight = Sight(store)
    told = folded(question, lambda one, _, inner: told_of_part(store, sight, one, inner))
    return told(dict(binding))


# What judges papers of a part is a function of what is bound, a flag and a value, and returns whether the value is a
# paper for the flag.


def is_pair(value):
    """Returns whether a value is a tuple of two things."""
    return isinstance(value, tuple) and len(value) == 2


def judge_of_atom(test):
    """Returns what judges papers of a question without parts, by its test."""
    return lambda bound, flag, value: isinstance(value, tuple) and len(value) == 0 and test(bound) == flag


def judge_of_not(inner):
    """Returns what judges papers of a not, by what judges those of its part."""
    return lambda bound, flag, value: inner(bound, not flag, value)


def judge_of_pair(one, other, both):
    """Returns what judges papers of an and or an or, where both is the flag for which both parts are needed."""
    def judge(bound, flag, value):
        if not is_pair(value):
            return False
        if flag == both:
            return one(bound, flag, value[0]) and other(bound, flag, value[1])
        if not is_between(value[0], 0, 1):
            return False
        part = one if value[0] == 0 else other
        return part(bound, flag, value[1])
    return judge


def are_looks(seen, numbers, value):
    """Returns whether a value is a list of pairs that has the near items, and then a far one of each type.

    What is seen comes of looked_at; the numbers are those of the types of all items.
    """
    near, rising, far = seen
    if not isinstance(value, list) or not all([is_pair(pair) and is_whole(pair[0]) for pair in value]):
        return False
    chosen = [pair[0] for pair in value]
    behind = chosen[len(rising):]
    if chosen[:len(rising)] != rising or any([item in near or item not in numbers for item in behind]):
        return False
    return [numbers[item] for item in behind] == [numbers[item] for item in far]


def judge_of_quantifier(asked, numbers, one, inner):
    """Returns what judges papers of a quantifier, by what judges those of its inner question."""
    def judge(bound, flag, value):
        if flag == (one[0] == "some"):
            if not is_pair(value) or not is_whole(value[0]) or value[0] not in numbers:
                return False
            rows = [value]
        elif are_looks(asked(bound), numbers, value):
            rows = value
        else:
            return False
        for item, paper in rows:
            bound[one[1]] = item
            if not inner(bound, flag, paper):
                return False
        return True
    return judge


def judge_of_part(store, sight, one, inner):
    """Returns what judges papers of a question, by what judges those of its parts."""
    if one[0] in QUANTIFIERS:
        numbers = sight.numbers_at(level_of(one))
        return judge_of_quantifier(sight.asked_of(one), numbers, one, inner[0])
    if one[0] == "not":
        return judge_of_not(inner[0])
    if one[0] in ("and", "or"):
        return judge_of_pair(inner[0], inner[1], one[0] == "and")
    return judge_of_atom(atom_test(store, one))


def is_told_by(store, question, binding, flag, value):
    """Returns whether a value is a paper for a flag of a question."""
    check_looked(store, question, binding)
    if flag is not True and flag is not False:
        raise InvalidFlag(flag)
    sight = Sight(store)
    judge = folded(question, lambda one, _, inner: judge_of_part(store, sight, one, inner))
    return judge(dict(binding), flag, value)
