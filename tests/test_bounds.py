"""[2]: what a name is; and the bound that the interface tells."""

import unittest

from outgrow.bounds import MOST_VISITS, is_name

NO_NAMES = "step for from to if else double call with again on halves thirds less n".split()


class TestIsName(unittest.TestCase):
    def names(self, texts, answer):
        for text in texts:
            self.assertIs(is_name(text), answer, repr(text))

    def test_lengths(self):
        self.names(["a", "ab", "abcdefg", "abcdefgh", "zzzzzzzz"], True)
        self.names(["", "abcdefghi", "a" * 4000], False)

    def test_each_letter(self):
        self.names([letter for letter in "abcdefghijklmopqrstuvwxyz"], True)
        self.names(["n"], False)

    def test_words_that_are_no_names(self):
        self.assertEqual(len(NO_NAMES), 15)
        self.names(NO_NAMES, False)

    def test_words_near_them_are_names(self):
        self.names([word + "s" for word in NO_NAMES], True)
        self.names(["ste", "nn", "half", "third", "more", "size", "plan", "watch", "put"], True)

    def test_other_signs(self):
        self.names(["A", "Scan", "scaN", "STEP", "N"], False)
        self.names(["1", "a1", "1a", "0"], False)
        self.names([" ", " a", "a ", "a b"], False)
        self.names(["\n", "a\n", "\na"], False)
        self.names(["_", "a_b", "a-b", "a.b", "a+", "(", ")", ";", "<=", "~", "!", "`a", "a{", "@"], False)


class TestMostVisits(unittest.TestCase):
    def test_value(self):
        self.assertEqual(MOST_VISITS, 10000)
        self.assertIs(type(MOST_VISITS), int)
