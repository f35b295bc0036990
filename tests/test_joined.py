"""Machines joined, against slow checks by sets of words."""

import itertools
import unittest

from neverturns.base.joined import are_same, behind, chained, common_word, first_difference, mirrored, of_words
from neverturns.base.joined import renamed, repeated
from neverturns.base.machines import Machine
from neverturns.errors import InvalidMachine, InvalidOperation, InvalidWord
from tests.support import NO_LETTERS, NO_MACHINES, NO_WORDS
from tests.support import all_machines, chain, is_slowly_least, slow_words, some_machines, spoken

LONGEST = 6
SINGLE = all_machines("a", 1) + all_machines("a", 2) + some_machines("a", 4, 12)
DOUBLE = all_machines("ab", 1) + some_machines("ab", 2, 12) + some_machines("ab", 3, 12) + some_machines("ab", 4, 12)
ALONE = SINGLE + DOUBLE + all_machines("ab", 2) + some_machines("by", 4, 60)
EVEN = Machine("ab", ((1, 0), (0, 1)), (0,))
STARTS = Machine("ab", ((1, 2), (1, 1), (2, 2)), (1,))
SINGLE_A = Machine("a", ((0,),), (0,))
GREATER = Machine("ab", ((1, 0), (2, 1), (0, 2)), (0,)) & Machine("ab", ((0, 1), (1, 2), (2, 3), (3, 0)), (0,))
PAIRS = [pair for group in (SINGLE, DOUBLE) for pair in itertools.product(group, repeat=2)]


class JoinedTest(unittest.TestCase):

    def check(self, made, letters, told):
        self.assertIs(type(made), Machine)
        self.assertEqual(made.letters, letters)
        self.assertEqual(spoken(made, LONGEST), told)
        self.assertTrue(is_slowly_least(made), made.table)

    def test_of_words(self):
        for letters in ("a", "ab", "by"):
            short = slow_words(letters, 2)
            for size in range(4):
                for words in itertools.combinations(short, size):
                    self.check(of_words(letters, words), letters, set(words))

    def test_of_words_at_the_edges(self):
        self.check(of_words("ab", ()), "ab", set())
        self.check(of_words("ab", ("",)), "ab", {""})
        self.assertEqual(len(of_words("ab", ())), 1)
        self.assertEqual(len(of_words("ab", ("",))), 2)
        six = ("aaaaaa", "bbbbbb", "ababab", "bababa", "aaabbb", "bbbaaa")
        self.check(of_words("ab", six), "ab", set(six))
        self.check(of_words("ab", six[::-1]), "ab", set(six))
        self.check(of_words("ab", ("b", "a", "b", "b", "", "a")), "ab", {"", "a", "b"})

    def test_chained(self):
        for one, other in PAIRS:
            first, second = spoken(one, LONGEST), spoken(other, LONGEST)
            told = {head + tail for head in first for tail in second if len(head + tail) <= LONGEST}
            self.check(chained(one, other), one.letters, told)

    def test_repeated(self):
        for machine in ALONE:
            words = spoken(machine, LONGEST)
            told = {""}
            for _ in range(LONGEST):
                told |= {head + tail for head in told for tail in words if len(head + tail) <= LONGEST}
            self.check(repeated(machine), machine.letters, told)

    def test_mirrored(self):
        for machine in ALONE:
            self.check(mirrored(machine), machine.letters, {word[::-1] for word in spoken(machine, LONGEST)})
            self.assertEqual(mirrored(mirrored(machine)), machine.least())

    def test_behind(self):
        for machine in ALONE:
            for word in slow_words(machine.letters, 3):
                told = {end for end in slow_words(machine.letters, LONGEST) if word + end in machine}
                self.check(behind(machine, word), machine.letters, told)

    def test_behind_long_words(self):
        self.check(behind(EVEN, "a" * 399), "ab", {word for word in slow_words("ab", 6) if word.count("a") % 2 == 1})

    def test_renamed(self):
        for machine in SINGLE:
            told = {word.replace("a", "q") for word in spoken(machine, LONGEST)}
            self.check(renamed(machine, {"a": "q"}), "q", told)
            self.assertEqual(renamed(machine, {"a": "a"}), machine.least())
        for machine in DOUBLE:
            for one, other in (("a", "b"), ("b", "a"), ("b", "c"), ("z", "a"), ("x", "y"), ("y", "x"), ("a", "c")):
                told = {word.translate({97: one, 98: other}) for word in spoken(machine, LONGEST)}
                made = renamed(machine, {"b": other, "a": one})
                self.check(made, "".join(sorted(one + other)), told)
                self.assertEqual(made, renamed(machine, {"a": one, "b": other}))

    def test_common_word_and_first_difference(self):
        for one, other in PAIRS:
            words = slow_words(one.letters, 7)
            both = [word for word in words if word in one and word in other]
            just_one = [word for word in words if (word in one) != (word in other)]
            # Words of up to seven letters tell machines with four states apart; common ones can be longer.
            self.assertEqual(first_difference(one, other), (just_one + [None])[0])
            self.assertIs(are_same(one, other), not just_one)
            if both or len(one) * len(other) <= 8:
                self.assertEqual(common_word(one, other), (both + [None])[0])

    def test_long_first_words(self):
        three = Machine("a", ((1,), (2,), (0,)), (2,))
        four = Machine("a", ((1,), (2,), (3,), (0,)), (3,))
        self.assertEqual(common_word(three, four), "a" * 11)
        self.assertEqual(first_difference(three & four, three & four & four), None)
        self.assertEqual(common_word(chain(60), Machine("a", ((0,),), (0,))), "a" * 58)
        self.assertEqual(first_difference(chain(60), chain(61)), "a" * 58)

    def test_returned_machines(self):
        self.assertEqual(len(GREATER), 12)
        words = spoken(GREATER, LONGEST)
        self.check(mirrored(GREATER), "ab", {word[::-1] for word in words})
        self.check(behind(GREATER, "aab"), "ab", {word for word in slow_words("ab", 6) if "aab" + word in GREATER})
        self.check(renamed(GREATER, {"a": "b", "b": "a"}), "ab", {word.translate({97: "b", 98: "a"}) for word in words})
        made = chained(of_words("ab", ("abab", "b")), of_words("ab", ("aa", "")))
        self.assertGreater(len(made), 4)
        self.check(made, "ab", {"abab", "b", "ababaa", "baa"})
        self.check(repeated(made), "ab", {
            "", "b", "bb", "bbb", "bbbb", "bbbbb", "bbbbbb", "abab", "ababb", "ababbb", "babab", "babab" + "b",
            "bbabab", "ababaa", "baa", "baab", "baabb", "baabbb", "bbaa", "bbaab", "bbaabb", "bbbaa", "bbbaab",
            "bbbbaa", "baabaa",
        })
        self.assertEqual(common_word(GREATER, STARTS), (GREATER & STARTS).first_word())
        self.assertIs(are_same(GREATER, GREATER & EVEN), False)
        self.assertIs(are_same(GREATER, GREATER | GREATER), True)

    def test_nothing_is_changed(self):
        machine = Machine("ab", ((1, 2), (3, 1), (2, 2), (3, 0)), (1, 3))
        names = {"b": "x", "a": "y"}
        answers = []
        for _ in range(2):
            answers.append([
                made.table for made in (
                    chained(machine, EVEN), repeated(machine), mirrored(machine), behind(machine, "ab"),
                    renamed(machine, names), of_words("ab", ("a", "b")),
                )
            ])
        self.assertEqual(answers[0], answers[1])
        self.assertEqual(machine, Machine("ab", ((1, 2), (3, 1), (2, 2), (3, 0)), (1, 3)))
        self.assertEqual(list(names.items()), [("b", "x"), ("a", "y")])


class WrongTest(unittest.TestCase):

    def test_of_words(self):
        for letters in NO_LETTERS:
            for words in ((), ("a",), None):
                with self.assertRaises(InvalidOperation):
                    of_words(letters, words)
        wrong = (("c",), ("a", "abc"), ("aaaaaaa",), ("a",) * 7, ["a"], "a", {"a": "b"}, ("a", True), ("a", ("b",)))
        for words in wrong + tuple((word,) for word in NO_WORDS):
            with self.assertRaises(InvalidOperation):
                of_words("ab", words)
        for words in NO_WORDS:
            if words not in ((), ("a",), ("a", "b")):
                with self.assertRaises(InvalidOperation):
                    of_words("ab", words)

    def test_no_machine(self):
        for value in NO_MACHINES:
            if isinstance(value, Machine):
                continue
            for call in (repeated, mirrored):
                with self.assertRaises(InvalidMachine):
                    call(value)
            for call in (chained, common_word, first_difference, are_same):
                for one, other in ((value, EVEN), (EVEN, value), (value, value), (value, SINGLE_A)):
                    with self.assertRaises(InvalidMachine):
                        call(one, other)
            for word in ("a", "A", "c", None):
                with self.assertRaises(InvalidMachine):
                    behind(value, word)
            for letters in ({"a": "b", "b": "c"}, None):
                with self.assertRaises(InvalidMachine):
                    renamed(value, letters)

    def test_other_letters(self):
        others = (SINGLE_A, Machine("b", ((0,),)), Machine("ac", ((0, 0),)), Machine("yz", ((0, 0),)))
        for other in others:
            for call in (chained, common_word, first_difference, are_same):
                with self.assertRaises(InvalidOperation):
                    call(EVEN, other)
                with self.assertRaises(InvalidOperation):
                    call(other, EVEN)

    def test_behind(self):
        for word in NO_WORDS:
            with self.assertRaises(InvalidWord):
                behind(EVEN, word)
        for word in ("c", "abz", "A".lower() + "c"):
            with self.assertRaises(InvalidOperation):
                behind(EVEN, word)
        with self.assertRaises(InvalidOperation):
            behind(SINGLE_A, "b")

    def test_renamed(self):
        wrong = (
            {}, {"a": "x"}, {"a": "x", "b": "x"}, {"a": "x", "c": "y"}, {"a": "x", "b": "y", "c": "z"},
            {"a": "x", "b": "Y"}, {"a": "x", "b": ""}, {"a": "x", "b": "yz"}, {"a": "x", "b": 1}, {"a": "x", "b": True},
            {"a": None, "b": None}, {"a": "x", "b": ["y"]}, {"a": "x", "b": ("y",)}, {"a": "x", "b": {"y": 1}},
            {"a": "x", 1: "y"}, {"a": "x", True: "y"}, {"a": "x", None: "y"}, {"a": "x", ("b",): "y"},
            {"a": EVEN, "b": "x"}, {"x": "a", "y": "b"}, {"a": "x", "b": "-"}, {"a": "x", "B": "y"},
        )
        for letters in wrong + NO_WORDS + ("", "ab"):
            with self.assertRaises(InvalidOperation):
                renamed(EVEN, letters)
        for letters in ({}, {"a": "x", "b": "y"}, {"b": "a"}, {"a": "aa"}):
            with self.assertRaises(InvalidOperation):
                renamed(SINGLE_A, letters)


if __name__ == "__main__":
    unittest.main()
