"""The last letters, against windows, and against slow searches by words."""

import unittest

from neverturns.base.joined import chained, common_word, of_words, repeated
from neverturns.base.machines import Machine
from neverturns.errors import InvalidMachine, InvalidNumber, InvalidOperation
from neverturns.part.ends import are_ended, last_letters_box, least_end, long_end, is_long_end
from neverturns.still.boxes import Box
from neverturns.still.sights import tells_apart
from tests.support import NO_MACHINES, NO_NUMBERS, NO_WORDS
from tests.support import all_machines, chain, slow_after, slow_first_turn, slow_has, slow_led, slow_words
from tests.support import some_machines

EVEN = Machine("ab", ((1, 0), (0, 1)), (0,))
ODD = Machine("ab", ((1, 0), (0, 1)), (1,))
STARTS = Machine("ab", ((1, 2), (1, 1), (2, 2)), (1,))
OTHERS = Machine("ab", ((1, 2), (1, 1), (2, 2)), (0, 2))
CLOSES = Machine("ab", ((1, 0), (1, 0)), (1,))
LATER = Machine("ab", ((0, 1), (0, 1)), (1,))
ALONE = Machine("a", ((0,),), (0,))
NONE = Machine("ab", ((0, 0),))


def split_pairs():
    """Pairs of machines without a common word: the ends of one table, given to two machines."""
    found = []
    for letters, size, many in (("a", 3, 30), ("a", 4, 40), ("ab", 2, 30), ("ab", 3, 150), ("by", 4, 250)):
        for at, machine in enumerate(some_machines(letters, size, many)):
            others = tuple(state for state in range(size) if state not in machine.ends)
            found.append((machine, Machine(letters, machine.table, others[at % 2:])))
    return found


SPLIT = split_pairs()
MEETING = [
    (one, other) for group in (all_machines("ab", 2)[::5], some_machines("ab", 3, 12), some_machines("a", 4, 12))
    for one in group for other in group
]
PAIRS = SPLIT + MEETING


def slow_pairs_of_ends(one, other, size):
    """Whether two words with the same last letters, so many, lead to ends: by all words that lead to each pair."""
    firsts = {slow_after(one, word) for word in slow_words(one.letters, 4)}
    seconds = {slow_after(other, word) for word in slow_words(one.letters, 4)}
    pairs = {(first, second) for first in firsts for second in seconds}
    for _ in range(size):
        pairs = {goal for first, second in pairs for goal in zip(one.table[first], other.table[second])}
    return any(first in one.ends and second in other.ends for first, second in pairs)


def slow_least_end(one, other):
    """The least size, straight from [11.1] and the bound of [11.3]; None if there is none."""
    if common_word(one, other) is not None:
        return None
    for size in range(len(one) * len(other) + 1):
        if not slow_pairs_of_ends(one, other, size):
            return size
    return None


def slow_is_long_end(one, other, value):
    """By the sentences of [11.2], for values of the right form."""
    front, second, ring, tail = value
    states = (slow_after(one, front), slow_after(other, second))
    return (
        ring != "" and slow_led(one.table, one.letters, states[0], ring) == states[0]
        and slow_led(other.table, other.letters, states[1], ring) == states[1]
        and slow_led(one.table, one.letters, states[0], tail) in one.ends
        and slow_led(other.table, other.letters, states[1], tail) in other.ends
    )


class SizeTest(unittest.TestCase):

    def test_are_ended_as_windows_tell(self):
        for one, other in PAIRS:
            for size in range(5 if len(one) > 3 or one.letters == "a" else 4):
                told = tells_apart(one, other, Box.window(one.letters, size))
                self.assertIs(are_ended(one, other, size), told)

    def test_windows_tell_as_the_document_says(self):
        for size in range(4):
            box = Box.window("ab", size)
            for one in slow_words("ab", 4):
                for other in slow_words("ab", 4):
                    long = len(one) >= size and len(other) >= size
                    told = one == other or long and one[len(one) - size:] == other[len(other) - size:]
                    self.assertIs(box(one) == box(other), told)

    def test_least_end(self):
        found = set()
        for one, other in PAIRS:
            least = slow_least_end(one, other)
            found.add(least)
            self.assertEqual(least_end(one, other), least)
            self.assertIs(least is None or type(least) is int, True)
            for size in (0, 1, 2, 3, 7, 16, 39, 40):
                self.assertIs(are_ended(one, other, size), least is not None and least <= size)
        self.assertLessEqual({None, 0, 1, 2, 3}, found)

    def test_no_words_of_many_letters_are_needed(self):
        # No word of the one has the last letters of a word of the other one, by all words up to some length.
        for one, other in SPLIT[::3]:
            least = least_end(one, other)
            words = slow_words(one.letters, 7 if len(one.letters) == 2 else 14)
            firsts = [word for word in words if slow_has(one, word)]
            seconds = [word for word in words if slow_has(other, word)]
            for size in range(3):
                ends = {word[len(word) - size:] for word in firsts if len(word) >= size}
                met = ends & {word[len(word) - size:] for word in seconds if len(word) >= size}
                if least is not None and size >= least:
                    self.assertFalse(met)

    def test_common_words_and_no_words(self):
        self.assertEqual([least_end(EVEN, EVEN), least_end(EVEN, CLOSES), least_end(CLOSES, CLOSES)], [None] * 3)
        self.assertEqual([least_end(NONE, EVEN), least_end(EVEN, NONE), least_end(NONE, NONE)], [0, 0, 0])
        self.assertEqual(long_end(NONE, EVEN), None)
        unreached = Machine("ab", ((0, 0), (1, 1)), (1,))
        self.assertEqual([least_end(unreached, EVEN), long_end(unreached, EVEN)], [0, None])
        few = of_words("ab", ("ab", "b"))
        self.assertEqual([least_end(few, few), long_end(few, few), are_ended(few, few, 40)], [None, None, False])
        self.assertEqual(least_end(few, of_words("ab", ("bb", "a", "aaab"))), 3)

    def test_long_sizes(self):
        one, other = chain(41), chain(60)
        self.assertEqual([least_end(one, other), least_end(other, one)], [40, 40])
        self.assertEqual([are_ended(one, other, size) for size in (0, 38, 39, 40)], [False, False, False, True])
        self.assertEqual(least_end(chain(52), other), 51)
        self.assertIs(are_ended(chain(52), other, 40), False)
        wide = chained(repeated(of_words("ab", ("aabbab", "b"))), of_words("ab", ("aaaaaa", "ab")))
        self.assertGreater(len(wide), 8)
        self.assertEqual(least_end(wide, CLOSES & wide), None)
        self.assertEqual(least_end(CLOSES & wide, LATER), 1)

    def test_wrong_sizes(self):
        for size in NO_NUMBERS + (-1, 41, 10 ** 11, 10 ** 39, True, False):
            for one, other in ((EVEN, ODD), (EVEN, ALONE), (CLOSES, LATER)):
                with self.assertRaises(InvalidNumber) as caught:
                    are_ended(one, other, size)
                self.assertIs(caught.exception.value, size)


class LongEndTest(unittest.TestCase):

    def test_long_end(self):
        found = {True: 0, False: 0}
        for one, other in PAIRS:
            value = long_end(one, other)
            found[value is None] += 1
            if value is None:
                continue
            self.assertIs(type(value), tuple)
            self.assertEqual([type(word) for word in value], [str] * 4)
            self.assertTrue(slow_is_long_end(one, other, value))
            self.assertIs(is_long_end(one, other, value), True)
            self.assertIs(least_end(one, other), None)
            self.assertLessEqual(max(map(len, value)), 16)
        self.assertGreater(min(found.values()), 50)

    def test_a_size_or_a_long_end(self):
        for one, other in PAIRS:
            if common_word(one, other) is None:
                self.assertIs(least_end(one, other) is None, long_end(one, other) is not None)

    def test_pairs_with_common_words(self):
        # If no tuple of short words is a long end, there is none: two states have short rings.
        words = slow_words("ab", 3)
        for one, other in MEETING[:80]:
            if len(one) == len(other) == 2 and one.letters == "ab":
                some = any(
                    slow_is_long_end(one, other, (front, second, ring, tail))
                    for front in words[:3] for second in words[:3] for ring in words for tail in words[:7]
                )
                if some:
                    self.assertIsNot(long_end(one, other), None)

    def test_is_long_end(self):
        found = {True: 0, False: 0}
        words = slow_words("ab", 1) + ["ab", "bb"]
        for one, other in SPLIT[100:220:6] + MEETING[:20]:
            if one.letters != "ab":
                continue
            for front in words:
                for second in words:
                    for ring in words:
                        for tail in words[:3]:
                            value = (front, second, ring, tail)
                            told = slow_is_long_end(one, other, value)
                            found[told] += 1
                            self.assertIs(is_long_end(one, other, value), told)
        self.assertGreater(min(found.values()), 100)

    def test_long_words(self):
        self.assertIs(is_long_end(STARTS, OTHERS, ("a" * 9999, "b" * 9999, "ab" * 50000, "")), True)
        self.assertIs(is_long_end(EVEN, ODD, ("a" * 9998, "a" * 9999, "ab" * 50000, "b" * 400)), True)
        self.assertIs(is_long_end(EVEN, ODD, ("a" * 9998, "a" * 9999, "ab" * 50001, "b" * 400)), False)

    def test_is_long_end_refuses_no_value(self):
        wrong = (
            ("a", "b", "a"), ("a", "b", "a", "", ""), ["a", "b", "a", ""], ("a", "b", "", ""), ("a", "b", "c", ""),
            ("a", "b", "a", "c"), ("ac", "b", "a", ""), ("a", "c", "a", ""), ("a", "b", "a", None),
            ("a", "b", None, ""), (None, "b", "a", ""), ("a", ("b",), "a", ""), ("a", "b", True, ""),
            ("A", "b", "a", ""), ("a", "b", "a", 0), "abab", {"a": "b"}, ("b", "a", "a", ""), (["a"], "b", "a", ""),
            (STARTS, OTHERS, "a", ""),
        )
        self.assertIs(is_long_end(STARTS, OTHERS, ("a", "b", "a", "")), True)
        for value in wrong + NO_WORDS + (STARTS,):
            self.assertIs(is_long_end(STARTS, OTHERS, value), False)


class LastLettersBoxTest(unittest.TestCase):

    def test_it_tells_apart(self):
        for one, other in SPLIT:
            least = least_end(one, other)
            if least:
                for machine in (one, other):
                    box = last_letters_box(machine, least)
                    self.assertIs(type(box), Box)
                    self.assertIs(slow_first_turn(box.table, box.letters), None)
                    self.assertIs(tells_apart(one, other, box), True)

    def test_long_ones(self):
        self.assertEqual(len(last_letters_box(chain(52), 51)), 52)
        box = last_letters_box(chain(60), 51)
        self.assertIs(tells_apart(chain(52), chain(60), box), True)

    def test_too_many_places(self):
        wide = Machine("ab", ((0, 1), (2, 3), (0, 2), (3, 1)), (0,))
        self.assertIs(last_letters_box(wide, 40), None)


class ErrorsTest(unittest.TestCase):

    def test_no_machine(self):
        for value in NO_MACHINES:
            if not isinstance(value, Machine):
                for one, other in ((value, EVEN), (EVEN, value), (ALONE, value), (value, None)):
                    for call, rest in (
                        (are_ended, (1,)), (are_ended, (41,)), (least_end, ()), (long_end, ()), (is_long_end, (None,)),
                        (is_long_end, (("a", "b", "a", ""),)),
                    ):
                        with self.assertRaises(InvalidMachine):
                            call(one, other, *rest)

    def test_other_letters(self):
        for one, other in ((EVEN, ALONE), (ALONE, EVEN), (EVEN, Machine("ac", ((1, 0), (0, 1)), (1,)))):
            for call, rest in (
                (are_ended, (1,)), (least_end, ()), (long_end, ()), (is_long_end, (None,)),
                (is_long_end, (("a", "b", "a", ""),)),
            ):
                with self.assertRaises(InvalidOperation):
                    call(one, other, *rest)

    def test_equal_calls(self):
        for one, other in PAIRS[::20]:
            self.assertEqual(long_end(one, other), long_end(one, other))
            self.assertEqual(least_end(one, other), least_end(one, other))


if __name__ == "__main__":
    unittest.main()
