"""The examples of the document, as they are printed there."""

import unittest

from neverturns.base.machines import Machine
from neverturns.base.words import all_words, are_powers, exponent, is_letters, is_word, power, root

EVEN = Machine("ab", ((1, 0), (0, 1)), (0,))
ODD = Machine("ab", ((1, 0), (0, 1)), (1,))
STARTS = Machine("ab", ((1, 2), (1, 1), (2, 2)), (1,))
OTHERS = Machine("ab", ((1, 2), (1, 1), (2, 2)), (0, 2))
CLOSES = Machine("ab", ((1, 0), (1, 0)), (1,))
LATER = Machine("ab", ((0, 1), (0, 1)), (1,))


class ExamplesTest(unittest.TestCase):

    def test_what_the_values_are(self):
        for word in all_words("ab", 6):
            self.assertEqual(word in EVEN, word.count("a") % 2 == 0)
            self.assertEqual(word in ODD, word.count("a") % 2 == 1)
            self.assertEqual(word in STARTS, word.startswith("a"))
            self.assertEqual(word in OTHERS, not word.startswith("a"))
            self.assertEqual(word in CLOSES, word.endswith("a"))
            self.assertEqual(word in LATER, word.endswith("b"))

    def test_words(self):
        self.assertEqual(
            repr([
                is_letters("ba"), is_word("aB"), list(all_words("ab", 1)), power("ab", 3), root("abab"),
                exponent("abab"), exponent(""),
            ]),
            "[False, False, ['', 'a', 'b'], 'ababab', 'ab', 2, 0]",
        )
        self.assertEqual(
            repr([are_powers("aa", "aaa"), are_powers("ab", "ba"), are_powers("", "b")]),
            "[True, False, True]",
        )

    def test_machines(self):
        self.assertEqual(
            repr([
                list(STARTS.words(2)), STARTS.after("ba"), "ab" in STARTS, EVEN.first_word(), len(STARTS),
                str(STARTS), EVEN.after("a", times=10 ** 11),
            ]),
            "[['a', 'aa', 'ab'], 2, True, '', 3, 'machine of 3 states, 1 ends', 0]",
        )
        self.assertEqual(
            repr([
                (~STARTS) == OTHERS.least(), (EVEN | ODD).table, (EVEN | ODD).is_full,
                (STARTS & CLOSES).first_word(), list((STARTS - CLOSES).words(3)),
            ]),
            "[True, ((0, 0),), True, 'a', ['ab', 'aab', 'abb']]",
        )


if __name__ == "__main__":
    unittest.main()
