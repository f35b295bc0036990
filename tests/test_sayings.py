"""Sayings, against a slow reading of the document's sentences at all beginnings of a word."""

import itertools
import random
import unittest

from neverturns.base.machines import Machine
from neverturns.errors import InvalidOperation, InvalidWord, TooMany
from neverturns.said.finding import saying_of
from neverturns.said.sayings import both, denied, either, holds, is_saying, parting_word, saying_machine, truths
from neverturns.still.turns import is_calm
from tests.support import NO_LETTERS, NO_STRINGS, NO_WORDS
from tests.support import is_slowly_least, slow_has, slow_words

STARTS = Machine("ab", ((1, 2), (1, 1), (2, 2)), (1,))
CLOSES = Machine("ab", ((1, 0), (1, 0)), (1,))
SEEN = (("letter", "a"), ("not", 0), ("either", 0, 1), ("since", 2, 0))
A = (("letter", "a"),)
ALWAYS = (("letter", "a"), ("not", 0), ("either", 0, 1))
NEVER = ALWAYS + (("not", 2),)


def some_saying(dice, many, letters="ab"):
    """A saying of so many steps; the first one is a letter."""
    steps = [("letter", dice.choice(letters))]
    while len(steps) < many:
        name = dice.choice(("letter", "not", "either", "ahead", "since", "since"))
        if name == "letter":
            steps.append((name, dice.choice(letters)))
        else:
            sources = [dice.randrange(len(steps)) for _ in range(1 if name in ("not", "ahead") else 2)]
            steps.append((name, *sources))
    return tuple(steps)


def some_sayings(many, letters="ab"):
    dice = random.Random(len(letters))
    return [some_saying(dice, dice.randint(1, 9), letters) for _ in range(many)]


SAYINGS = some_sayings(120) + [SEEN, A, ALWAYS, NEVER]
SINGLE = some_sayings(30, "a")


def window(size):
    """A saying that tells for so many of the last letters whether they are an a."""
    return A + tuple(("ahead", at) for at in range(size - 1))


def counter(letter, most):
    """A saying that tells whether a letter has come so often: each step once more."""
    steps = [("letter", letter), ("not", 0), ("either", 0, 1), ("since", 2, 0)]
    for _ in range(most - 1):
        # Once more: now, and so often ahead of now; and ever since.
        last = len(steps) - 1
        steps += [("ahead", last), ("not", last + 1), ("either", 1, last + 2), ("not", last + 3),
        ("since", 2, last + 4)]
    return tuple(steps)


def slow_truth(saying, at, word):
    """Whether a step is true behind a word, straight from [17.2]."""
    step = saying[at]
    if step[0] == "letter":
        return word.endswith(step[1])
    if step[0] == "not":
        return not slow_truth(saying, step[1], word)
    if step[0] == "either":
        return slow_truth(saying, step[1], word) or slow_truth(saying, step[2], word)
    if step[0] == "ahead":
        return word != "" and slow_truth(saying, step[1], word[:-1])
    return any(
        slow_truth(saying, step[2], word[:size])
        and all(slow_truth(saying, step[1], word[:longer]) for longer in range(size + 1, len(word) + 1))
        for size in range(len(word) + 1)
    )


def slow_truths(saying, word):
    return tuple(slow_truth(saying, at, word) for at in range(len(saying)))


class TruthsTest(unittest.TestCase):

    def test_truths(self):
        for letters, sayings in (("ab", SAYINGS), ("a", SINGLE)):
            for saying in sayings:
                for word in slow_words(letters, 4 if len(letters) == 2 else 7):
                    told = slow_truths(saying, word)
                    found = truths(saying, word)
                    self.assertEqual(found, told)
                    self.assertEqual([type(found)] + [type(truth) for truth in found], [tuple] + [bool] * len(saying))
                    self.assertIs(holds(saying, word), told[-1])

    def test_other_letters(self):
        self.assertEqual(truths(SEEN, "zab"), (False, True, True, True))
        self.assertEqual(truths(SEEN, "xyz"), (False, True, True, False))

    def test_since_begins_anywhere(self):
        saying = (("letter", "a"), ("letter", "b"), ("since", 0, 1), ("not", 1), ("since", 0, 3))
        self.assertEqual([truths(saying, word)[2] for word in ("", "b", "a", "ba", "baa", "bab", "aa")],
                         [False, True, False, True, True, True, False])
        self.assertEqual([truths(saying, word)[4] for word in ("", "b", "a", "ba", "bb")],
                         [True, False, True, True, False])

    def test_long_words(self):
        self.assertEqual(truths(SEEN, "b" * 99999 + "a"), (True, False, True, True))
        self.assertIs(holds(counter("a", 60), "ab" * 60), True)
        self.assertIs(holds(counter("a", 60), "ab" * 59), False)
        self.assertIs(holds(window(50), "a" + "b" * 49), True)

    def test_many_steps(self):
        saying = A + tuple(("not", at) for at in range(20000))
        self.assertIs(is_saying(saying), True)
        self.assertIs(holds(saying, "ba"), True)
        self.assertIs(holds(denied(saying), "ba"), False)
        self.assertEqual(saying_machine("ab", saying), CLOSES)


class IsSayingTest(unittest.TestCase):

    def test_sayings(self):
        for saying in SAYINGS + SINGLE + [window(60), counter("b", 12)]:
            self.assertIs(is_saying(saying), True)
        for letter in "abz":
            self.assertIs(is_saying((("letter", letter),)), True)

    def test_is_saying_refuses_no_value(self):
        steps = (
            ("letter",), ("letter", ""), ("letter", "ab"), ("letter", "A"), ("letter", "-"), ("letter", 0),
            ("letter", None), ("letter", True), ("letter", ("a",)), ("letter", "a", "b"), ("not",), ("not", 1),
            ("not", -1),
            ("not", 0, 0), ("not", False), ("not", "0"), ("not", None), ("not", (0,)), ("not", 10 ** 39), ("either", 0),
            ("either", 0, 1), ("either", 1, 0), ("either", 0, 0, 0), ("either", 0, False), ("either", False, 0),
            ("ahead",), ("ahead", 1), ("ahead", 0, 0), ("ahead", False), ("since", 0), ("since", 0, 1),
            ("since", -1, 0),
            ("since", 0, 0, 0), ("since", 0, None), ("both", 0, 0), ("Not", 0), ("", 0), (0, "not"), (None, 0),
            (True, 0),
            ["not", 0], ("since", 0, True), "not", "a", None, 0, True, {}, {"not": 0}, (), ((), 0), (("not",), 0),
            (["not"], 0),
            STARTS, (STARTS, 0), ({}, 0), ("not", STARTS), ("word", "a"), ("often", 0), ("letter", 10 ** 39),
        )
        for step in steps:
            self.assertIs(is_saying((("letter", "a"), step)), False)
        for step in steps + (("not", 0), ("ahead", 0), ("either", 0, 0), ("since", 0, 0)):
            self.assertIs(is_saying((step,)), False)
            self.assertIs(is_saying(step), False)
        for value in NO_WORDS + ("", [("letter", "a")], (["letter", "a"],), {0: ("letter", "a")}, ("letter", "a"),
                                 SEEN + (None,), ((SEEN),) + (SEEN,)):
            self.assertIs(is_saying(value), False)


class JoinedTest(unittest.TestCase):

    def test_denied_either_and_both(self):
        words = slow_words("ab", 4)
        for one, other in zip(SAYINGS, SAYINGS[7:] + SAYINGS[:7]):
            first = [slow_truths(one, word)[-1] for word in words]
            second = [slow_truths(other, word)[-1] for word in words]
            for made, told, size in (
                (denied(one), [not truth for truth in first], len(one)),
                (either(one, other), [left or right for left, right in zip(first, second)], len(one) + len(other)),
                (both(one, other), [left and right for left, right in zip(first, second)], len(one) + len(other)),
            ):
                self.assertIs(is_saying(made), True)
                self.assertEqual([holds(made, word) for word in words], told)
                self.assertLessEqual(len(made), size + 4)

    def test_of_themselves(self):
        made = both(SEEN, either(SEEN, denied(SEEN)))
        self.assertEqual([holds(made, word) for word in ("", "b", "a", "ab")], [False, False, True, True])
        self.assertEqual(saying_machine("ab", both(SEEN, denied(SEEN))), Machine("ab", ((0, 0),)))


class MachineTest(unittest.TestCase):

    def test_saying_machine(self):
        for letters, sayings in (("ab", SAYINGS), ("a", SINGLE), ("b", SAYINGS[:30]), ("ax", SAYINGS[:30])):
            for saying in sayings:
                made = saying_machine(letters, saying)
                self.assertIs(type(made), Machine)
                self.assertEqual(made.letters, letters)
                self.assertTrue(is_slowly_least(made))
                for word in slow_words(letters, 6):
                    self.assertIs(slow_has(made, word), holds(saying, word))
                if len(made) <= 6:
                    self.assertIs(is_calm(made), True)

    def test_known_machines(self):
        self.assertEqual(saying_machine("ab", ALWAYS), Machine("ab", ((0, 0),), (0,)))
        self.assertEqual(saying_machine("ab", NEVER), Machine("ab", ((0, 0),)))
        self.assertEqual(saying_machine("bc", A), Machine("bc", ((0, 0),)))
        only = ALWAYS + (("ahead", 2), ("not", 3))
        self.assertEqual(list(saying_machine("ab", only).words(5)), [""])
        self.assertEqual(len(saying_machine("ab", counter("a", 11))), 12)
        self.assertEqual(saying_machine("ab", counter("a", 11)).first_word(), "a" * 11)
        self.assertEqual(len(saying_machine("a", window(60))), 61)

    def test_small(self):
        # For two letters, windows of nine letters have 512 truths: those ahead of the beginning are no a, too.
        self.assertEqual(len(saying_machine("ab", window(9))), 512)
        for letters, saying in (("ab", window(10)), ("ab", window(60)), ("by", either(window(10), window(10)))):
            if letters == "by":
                self.assertEqual(saying_machine(letters, saying), Machine("by", ((0, 0),)))
                continue
            for call in (
                lambda: saying_machine(letters, saying), lambda: parting_word(letters, saying, A),
                lambda: parting_word(letters, A, saying),
            ):
                with self.assertRaises(TooMany) as caught:
                    call()
                self.assertEqual(caught.exception.limit, 1000)
        self.assertEqual(saying_machine("a", window(10)).first_word(), "a" * 10)

    def test_just_a_thousand_truths(self):
        self.assertEqual(len({slow_truths(window(6), "a" * many) for many in range(20)}), 7)
        made = saying_machine("a", window(999))
        self.assertEqual((len(made), made.first_word()), (1000, "a" * 999))
        self.assertEqual(parting_word("a", window(999), window(998)), "a" * 998)
        for call in (
            lambda: saying_machine("a", window(1000)), lambda: parting_word("a", window(1000), window(999)),
            lambda: parting_word("a", window(999), window(1000)),
        ):
            with self.assertRaises(TooMany) as caught:
                call()
            self.assertEqual(caught.exception.limit, 1000)
        # All steps count, also those of which the last one is not made.
        self.assertEqual(saying_machine("ab", window(9) + A), CLOSES)
        with self.assertRaises(TooMany):
            saying_machine("ab", window(10) + A)


class PartingTest(unittest.TestCase):

    def test_parting_word(self):
        words = slow_words("ab", 7)
        found = {True: 0, False: 0}
        for one, other in zip(SAYINGS, SAYINGS[5:] + SAYINGS[:5]):
            word = parting_word("ab", one, other)
            found[word is None] += 1
            told = [word for word in words if holds(one, word) != holds(other, word)]
            if told:
                self.assertEqual(word, told[0])
            elif word is not None:
                self.assertNotEqual(holds(one, word), holds(other, word))
                self.assertGreater(len(word), 7)
            self.assertIs(parting_word("ab", one, one), None)
            self.assertIs(word is None, saying_machine("ab", one) == saying_machine("ab", other))
        self.assertGreater(min(found.values()), 2)
        for one, other in zip(SINGLE, SINGLE[5:]):
            told = [word for word in slow_words("a", 12) if holds(one, word) != holds(other, word)]
            self.assertEqual(parting_word("a", one, other), told[0] if told else None)

    def test_letters_count(self):
        self.assertEqual(parting_word("bc", A, NEVER), None)
        self.assertEqual(parting_word("bc", A, ALWAYS), "")
        self.assertEqual(parting_word("ab", A, NEVER), "a")
        self.assertEqual(parting_word("ab", (("letter", "b"),), NEVER), "b")

    def test_long_words(self):
        self.assertEqual(parting_word("ab", counter("a", 11), counter("a", 10)), "a" * 10)
        self.assertEqual(parting_word("ab", both(window(9), (("letter", "b"),)), NEVER), "aaaaaaaab")
        self.assertEqual(parting_word("ab", counter("b", 11), denied(denied(counter("b", 11)))), None)
        self.assertEqual(parting_word("a", window(60), NEVER), "a" * 60)

    def test_found_sayings(self):
        self.assertIs(parting_word("ab", saying_of(CLOSES), A), None)
        self.assertEqual(parting_word("ab", saying_of(STARTS), saying_of(CLOSES)), "ab")

    def test_many_truths(self):
        self.assertEqual(parting_word("ab", window(9), denied(window(9))), "")
        self.assertEqual(parting_word("ab", window(9), window(8)), "a" * 8)


class ErrorsTest(unittest.TestCase):

    def calls(self):
        """Calls that take a saying."""
        return (
            lambda value: truths(value, "a"), lambda value: truths(value, None), lambda value: holds(value, "a"),
            lambda value: holds(value, None), denied, lambda value: either(value, SEEN),
            lambda value: either(SEEN, value),
            lambda value: both(value, SEEN), lambda value: both(SEEN, value), lambda value: either(value, None),
            lambda value: saying_machine("ab", value), lambda value: parting_word("ab", value, SEEN),
            lambda value: parting_word("ab", SEEN, value), lambda value: parting_word("ab", window(60), value),
        )

    def test_no_saying(self):
        wrong = ((), (("not", 0),), (("letter", "ab"),), SEEN + (("not", True),), list(SEEN), SEEN + (None,), STARTS)
        for value in wrong + NO_WORDS:
            for call in self.calls():
                with self.assertRaises(InvalidOperation):
                    call(value)

    def test_no_letters(self):
        for letters in NO_LETTERS:
            for saying in (SEEN, None):
                with self.assertRaises(InvalidOperation):
                    saying_machine(letters, saying)
                with self.assertRaises(InvalidOperation):
                    parting_word(letters, saying, saying)

    def test_no_words(self):
        for word in NO_WORDS:
            for call in (truths, holds):
                with self.assertRaises(InvalidWord):
                    call(SEEN, word)

    def test_nothing_is_changed(self):
        saying = (("letter", "a"), ("ahead", 0), ("either", 0, 1))
        answers = [(truths(saying, "ba"), denied(saying), either(saying, SEEN), both(SEEN, saying),
                    saying_machine("ab", saying), parting_word("ab", saying, SEEN)) for _ in range(2)]
        self.assertEqual(answers[0], answers[1])
        self.assertEqual(saying, (("letter", "a"), ("ahead", 0), ("either", 0, 1)))
        for value in NO_STRINGS:
            self.assertIs(is_saying(value), False)
        for first, second in itertools.product("ab", repeat=2):
            self.assertIs(holds(A, first + second), second == "a")


if __name__ == "__main__":
    unittest.main()
