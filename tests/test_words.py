"""Letters, sets of letters and words."""

import unittest

from neverturns.base import words
from neverturns.base.words import all_words, are_powers, exponent, is_letters, is_word, power, root
from neverturns.errors import InvalidNumber, InvalidOperation, InvalidWord
from tests.support import NO_LETTERS, NO_NUMBERS, NO_WORDS, slow_words

ALPHABET = "abcdefghijklmnopqrstuvwxyz"
SMALL_WORDS = slow_words("ab", 6)
LONG_WORDS = ("ab" * 200, "a" * 400, "a" * 399 + "b", "abz" * 133, "ab" * 99 + "ba")


def slow_root(word):
    for size in range(len(word) + 1):
        for times in range(len(word) + 1):
            if word[:size] * times == word:
                return word[:size]


class LettersTest(unittest.TestCase):

    def test_constant(self):
        self.assertEqual(words.MAX_LETTERS, 2)

    def test_all_sets_of_one_and_two(self):
        for one in ALPHABET:
            self.assertIs(is_letters(one), True)
            for other in ALPHABET:
                self.assertIs(is_letters(one + other), one < other)

    def test_what_is_no_set_of_letters(self):
        for value in NO_LETTERS:
            self.assertIs(is_letters(value), False, value)


class WordTest(unittest.TestCase):

    def test_words(self):
        for value in ("", "a", "z", "zz", "ba", ALPHABET, "a" * 400, "a" * 100000):
            self.assertIs(is_word(value), True)

    def test_what_is_no_word(self):
        for value in NO_WORDS:
            self.assertIs(is_word(value), False, value)

    def test_each_printable_character(self):
        for code in range(32, 127):
            self.assertIs(is_word(chr(code)), chr(code) in ALPHABET)
            self.assertIs(is_word("a" + chr(code) + "a"), chr(code) in ALPHABET)


class AllWordsTest(unittest.TestCase):

    def test_all_words_in_their_order(self):
        for letters in ("a", "z", "ab", "by"):
            for most in range(9):
                self.assertEqual(list(all_words(letters, most)), slow_words(letters, most))

    def test_edges(self):
        self.assertEqual(list(all_words("ab", 0)), [""])
        self.assertEqual(list(all_words("a", 8))[-1], "a" * 8)
        self.assertEqual(len(list(all_words("ab", 8))), 511)

    def test_wrong_letters(self):
        for letters in NO_LETTERS:
            made = all_words(letters, 2)
            with self.assertRaises(InvalidOperation):
                next(made)

    def test_wrong_numbers(self):
        for most in NO_NUMBERS + (-1, 9, 10 ** 12, -10 ** 39, True, False):
            made = all_words("ab", most)
            with self.assertRaises(InvalidNumber) as caught:
                next(made)
            self.assertIs(caught.exception.value, most)

    def test_the_first_argument_that_is_wrong(self):
        made = all_words("ba", 9)
        with self.assertRaises(InvalidOperation):
            next(made)

    def test_two_runs_do_not_meet(self):
        one = all_words("ab", 2)
        other = all_words("ab", 2)
        next(one)
        next(one)
        self.assertEqual(next(other), "")
        self.assertEqual(list(one), ["b", "aa", "ab", "ba", "bb"])


class PowerTest(unittest.TestCase):

    def test_ordinary_and_edges(self):
        for word in ("", "a", "ab", "zaz", "a" * 400):
            made = ""
            for times in range(61):
                self.assertEqual(power(word, times), made)
                made = made + word

    def test_wrong_words(self):
        for word in NO_WORDS:
            with self.assertRaises(InvalidWord):
                power(word, 2)

    def test_wrong_numbers(self):
        for times in NO_NUMBERS + (-1, 61, 10 ** 11, -10 ** 39, True, False):
            with self.assertRaises(InvalidNumber) as caught:
                power("ab", times)
            self.assertIs(caught.exception.value, times)

    def test_the_first_argument_that_is_wrong(self):
        with self.assertRaises(InvalidWord):
            power("aB", 61)


class RootTest(unittest.TestCase):

    def test_small_and_long_words(self):
        for word in SMALL_WORDS + list(LONG_WORDS):
            self.assertEqual(root(word), slow_root(word))
            self.assertEqual(root(word) * exponent(word), word)

    def test_edges(self):
        self.assertEqual([root(""), exponent("")], ["", 0])
        self.assertEqual([root("a"), exponent("a")], ["a", 1])
        self.assertEqual([exponent("a" * 400), exponent("ab" * 200), exponent("aab")], [400, 200, 1])
        self.assertEqual([root("ababa"), root("abaaba")], ["ababa", "aba"])

    def test_long_returned_words(self):
        word = power("a" * 1000 + "b", 60)
        self.assertEqual(root(word), "a" * 1000 + "b")
        self.assertEqual(exponent(word), 60)

    def test_wrong_words(self):
        for word in NO_WORDS:
            with self.assertRaises(InvalidWord):
                root(word)
            with self.assertRaises(InvalidWord):
                exponent(word)


class ArePowersTest(unittest.TestCase):

    def test_small_words(self):
        for one in SMALL_WORDS:
            for other in SMALL_WORDS:
                told = "" in (one, other) or slow_root(one) == slow_root(other)
                self.assertIs(are_powers(one, other), told, (one, other))
                self.assertIs(one + other == other + one, told)

    def test_wrong_words(self):
        for word in NO_WORDS:
            with self.assertRaises(InvalidWord):
                are_powers(word, "a")
            with self.assertRaises(InvalidWord):
                are_powers("", word)
            with self.assertRaises(InvalidWord):
                are_powers(word, word)


if __name__ == "__main__":
    unittest.main()
