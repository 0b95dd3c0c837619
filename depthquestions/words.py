"""Words: what marks, columns and the names in questions are called."""

LETTERS = "abcdefghijklmnopqrstuvwxyz"
WORD_SIGNS = "abcdefghijklmnopqrstuvwxyz0123456789"
MOST_SIGNS = 30
RESERVED = ("all", "and", "false", "in", "link", "mark", "not", "or", "same", "some", "true")


def is_word(value):
    """Returns whether a value is a word."""
    return isinstance(value, str) and is_spelled(value) and value not in RESERVED


def is_spelled(text):
    """Returns whether a string is spelled as a word is, reserved or not."""
    if not 1 <= len(text) <= MOST_SIGNS or text[0] not in LETTERS:
        return False
    return all([sign in WORD_SIGNS for sign in text])
