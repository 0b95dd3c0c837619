"""Points [4] and [6]: words."""

import unittest

from samples import RESERVED, junk

from depthquestions.words import is_word


class Words(unittest.TestCase):
    def test_words(self):
        for value in ["a", "z", "a0", "red", "x9y9", "a" * 30, "z" + "9" * 29, "ins", "falsey", "al", "store", "put"]:
            self.assertIs(is_word(value), True, value)

    def test_by_name(self):
        self.assertIs(is_word(value="red"), True)

    def test_length(self):
        self.assertIs(is_word(""), False)
        self.assertIs(is_word("a" * 31), False)
        self.assertIs(is_word("a" * 100000), False)

    def test_signs(self):
        for value in ["A", "Red", "reD", "0", "9a", "a b", " a", "a ", "a\n", "\na", "a_b", "_a", "a-b", "a.b", "a\t",
                      "`a", "{a", "a{", "a/", "a:", "\u00e9", "a\u00e9", "\u00b2", "a\u00b2", "a\u0661", "\u00df"]:
            self.assertIs(is_word(value), False, value)

    def test_reserved(self):
        self.assertEqual(len(RESERVED), 11)
        for value in RESERVED:
            self.assertIs(is_word(value), False, value)
            self.assertIs(is_word(value + "1"), True, value)

    def test_no_strings(self):
        for value in junk() + [["a"], ("a",), {"a": 1}, b"a"]:
            self.assertIs(is_word(value), False, value)


if __name__ == "__main__":
    unittest.main()
