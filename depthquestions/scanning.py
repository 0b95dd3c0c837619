"""Tokens of texts, and the first of them that is wrong."""

from depthquestions.stores import MOST_NUMBER
from depthquestions.words import WORD_SIGNS, is_spelled, is_word

END = ""
NO_TOKEN = "?"
BLANKS = " \t"
SINGLE_SIGNS = "(),:;="
MOST_DIGITS = 30

# For each state the tokens that may come next, "W" for a word and "N" for a number, "" for the end; with each the
# state behind it, and by how many more parentheses around parts are open then.
QUESTION_STEPS = {
    "start": (
        ("true", "part", 0), ("false", "part", 0), ("not", "start", 0), ("some", "bound", 0), ("all", "bound", 0),
        ("(", "start", 1), ("W", "sign", 0),
    ),
    "bound": (("W", "colon", 0),),
    "colon": ((":", "start", 0),),
    "sign": (("(", "one", 0), ("=", "last", 0)),
    "last": (("W", "part", 0),),
    "one": (("W", "more", 0),),
    "more": ((")", "part", 0), (",", "other", 0)),
    "other": (("W", "close", 0),),
    "close": ((")", "part", 0),),
    "part": (("and", "start", 0), ("or", "start", 0), (")", "part", -1), ("", "end", 0)),
}
STORE_STEPS = {
    "start": (("marks", "marks", 0),),
    "marks": (("W", "mark", 0), (";", "marked", 0)),
    "mark": ((",", "next mark", 0), (";", "marked", 0)),
    "next mark": (("W", "mark", 0),),
    "marked": (("columns", "columns", 0),),
    "columns": (("W", "column", 0), (";", "lined", 0)),
    "column": ((",", "next column", 0), (";", "lined", 0)),
    "next column": (("W", "column", 0),),
    "lined": (("items", "items", 0),),
    "items": (("N", "item", 0), (";", "facts", 0)),
    "item": ((",", "next item", 0), (";", "facts", 0)),
    "next item": (("N", "item", 0),),
    "facts": (("W", "fact", 0), ("", "end", 0)),
    "fact": (("(", "one", 0),),
    "one": (("N", "more", 0),),
    "more": ((")", "told", 0), (",", "other", 0)),
    "other": (("N", "close", 0),),
    "close": ((")", "told", 0),),
    "told": ((";", "facts", 0),),
}


def run_end(line, at):
    """Returns where the letters and digits end that stand side by side from a place of a line on."""
    end = at
    while end < len(line) and line[end] in WORD_SIGNS:
        end += 1
    return end


def is_run_token(run):
    """Returns whether letters and digits that stand side by side are a word, reserved or not, or a number."""
    if not run.isdigit():
        return is_spelled(run)
    return len(run) <= MOST_DIGITS and (run == "0" or run[0] != "0")


def token_at(line, at):
    """Returns the token that begins at a place of a line, NO_TOKEN for what is none, and where it ends."""
    end = run_end(line, at)
    if end == at:
        return (line[at] if line[at] in SINGLE_SIGNS else NO_TOKEN), at + 1
    run = line[at:end]
    return (run if is_run_token(run) else NO_TOKEN), end


def tokens_of_line(line, number):
    """Returns the tokens of a line without notes, each with its place."""
    found = []
    at = 0
    while at < len(line):
        if line[at] in BLANKS:
            at += 1
            continue
        sign, end = token_at(line, at)
        found.append((sign, (number, at + 1)))
        at = end
    return found


def tokens_of(text):
    """Returns the tokens of a text, the end behind its last character among them, each with its place."""
    lines = text.split("\n")
    found = []
    for number, line in enumerate(lines, start=1):
        ahead = line.partition("#")[0]
        found.extend(tokens_of_line(ahead, number))
    found.append((END, (len(lines), len(lines[-1]) + 1)))
    return found


def fits(sign, wanted):
    """Returns whether a token is one that may come."""
    if wanted == "W":
        return is_word(sign)
    if wanted == "N":
        return sign.isdigit() and int(sign) <= MOST_NUMBER
    return sign == wanted


def step_over(steps, sign):
    """Returns the first of some steps that leads over a token, None if there is none."""
    for step in steps:
        if fits(sign, step[0]):
            return step
    return None


def wrong_place(tokens, steps):
    """Returns the place of the first token over which no step leads, None if there is none."""
    state = "start"
    still_open = 0
    for sign, place in tokens:
        step = step_over(steps[state], sign)
        if step is None:
            return place
        state = step[1]
        still_open += step[2]
        if still_open < 0 or (state == "end" and still_open > 0):
            return place
    return None
