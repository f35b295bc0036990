"""Boxes, against slow searches by words."""

import itertools
import unittest

from neverturns.base.machines import Machine
from neverturns.errors import GoesRound, InvalidBox, InvalidNumber, InvalidOperation, InvalidWord
from neverturns.still import boxes
from neverturns.still.boxes import Box
from neverturns.still.turns import is_still
from tests.support import NO_BOXES, NO_LETTERS, NO_NUMBERS, NO_WORDS
from tests.support import all_boxes, all_tables, slow_action, slow_first_turn, slow_firsts, slow_led, slow_words
from tests.support import some_boxes

LATCH = Box("ab", ((1, 0), (1, 1)))
ONE = Box("a", ((0,),))
FOUR = Box("yz", ((1, 0), (2, 1), (3, 2), (3, 3)))
SMALL = all_boxes("c", 1) + all_boxes("c", 2) + all_boxes("c", 3) + all_boxes("ab", 1) + all_boxes("ab", 2)
MANY = SMALL + some_boxes("a", 4, 30) + some_boxes("ab", 3, 60) + some_boxes("by", 4, 60)
GREATER = Box.window("ab", 2) & Box.caps("ab", 2)
CALLS = (
    lambda box, word: box(word), lambda box, word: box.place(word, 0), lambda box, word: box.action(word),
    lambda box, word: box.lag(word),
)


class MakingTest(unittest.TestCase):

    def test_constant(self):
        self.assertEqual(boxes.MAX_PLACES, 4)

    def test_properties(self):
        self.assertEqual((LATCH.letters, LATCH.table), ("ab", ((1, 0), (1, 1))))
        self.assertEqual((FOUR.letters, FOUR.table[3]), ("yz", (3, 3)))
        for name in ("letters", "table"):
            with self.assertRaises(AttributeError):
                setattr(LATCH, name, ())

    def test_wrong_letters(self):
        for letters in NO_LETTERS:
            for table in (((0, 0),), ((0,),), ((1,), (0,)), None):
                with self.assertRaises(InvalidBox):
                    Box(letters, table)

    def test_wrong_tables(self):
        tables = (
            (), ((),), ((0,),), ((0, 0, 0),), ((0, 1),), ((0, -1),), ((0, 0), (2, 0)), ((0, 0), (0,)),
            ((0, 0),) * 5, ((1, 0), (0, 1), (2, 2), (3, 3), (4, 4)), [(0, 0)], ([0, 0],), ((0, 0), [0, 0]),
            ((0, 0), "ab"), ({}, {}), ((0, False),), ((1, 0), (True, 0)), ((0, None),), ((0, "0"),), ((0, (0,)),),
            ((0, 10 ** 39),), ((0, LATCH),), (LATCH,), LATCH, ({0: 0, 1: 0},), "ab", ("ab", "ab"), {0: (0, 0)},
        )
        for table in tables + tuple(value for value in NO_BOXES if value != ((1, 0), (0, 1))):
            with self.assertRaises(InvalidBox):
                Box("ab", table)
        for table in (((0, 0),), ((1,),), ((0,), (2,)), ((False,),), ((0,),) * 5):
            with self.assertRaises(InvalidBox):
                Box("a", table)

    def test_goes_round(self):
        tables = [("ab", table) for table in all_tables("ab", 2)] + [("c", table) for table in all_tables("c", 3)]
        tables += [("ab", table) for table in all_tables("ab", 3)[::5]] + [("a", table) for table in all_tables("a", 4)]
        tables += [("ab", table) for table in all_tables("ab", 4)[::611]]
        for letters, table in tables:
            told = slow_first_turn(table, letters)
            if told is None:
                self.assertEqual(Box(letters, table).table, table)
            else:
                with self.assertRaises(GoesRound) as caught:
                    Box(letters, table)
                self.assertEqual(caught.exception.turn, told)

    def test_turns_of_places_to_which_no_word_leads(self):
        with self.assertRaises(GoesRound) as caught:
            Box("ab", ((0, 0), (2, 1), (1, 1)))
        self.assertEqual(caught.exception.turn, ("a", 1))

    def test_turns_of_longer_words(self):
        with self.assertRaises(GoesRound) as caught:
            Box("ab", ((3, 3), (3, 2), (0, 2), (3, 1)))
        self.assertEqual(caught.exception.turn, ("abb", 1))


class NamedBoxesTest(unittest.TestCase):

    def test_window(self):
        for letters in ("a", "ab", "by"):
            for size in range(5):
                words = slow_words(letters, size)
                box = Box.window(letters, size)
                self.assertIs(type(box), Box)
                self.assertEqual((box.letters, len(box)), (letters, len(words)))
                for word in slow_words(letters, 7):
                    told = word if len(word) <= size else word[len(word) - size:]
                    self.assertEqual(box(word), words.index(told))
                for place, word in enumerate(words):
                    for letter in letters:
                        told = (word + letter)[-size:] if size else ""
                        self.assertEqual(box.place(letter, place), words.index(told))

    def test_caps(self):
        for most in range(10):
            box = Box.caps("by", most)
            self.assertIs(type(box), Box)
            self.assertEqual(len(box), (most + 1) ** 2)
            alone = Box.caps("q", most)
            self.assertEqual(len(alone), most + 1)
            for first in range(12):
                self.assertEqual(alone("q" * first), min(first, most))
                for second in range(12):
                    told = min(first, most) + (most + 1) * min(second, most)
                    self.assertEqual(box("b" * first + "y" * second), told)
                    self.assertEqual(box("y" * second + "b" * first), told)

    def test_neither_goes_round(self):
        for box in (Box.window("ab", 2), Box.window("a", 4), Box.caps("ab", 2), Box.caps("a", 9), GREATER):
            self.assertIs(slow_first_turn(box.table, box.letters), None)

    def test_wrong_arguments(self):
        for made, highest in ((Box.window, 4), (Box.caps, 9)):
            for letters in NO_LETTERS:
                for number in (1, -1, None):
                    with self.assertRaises(InvalidOperation):
                        made(letters, number)
            for number in NO_NUMBERS + (-1, highest + 1, 10 ** 11, 10 ** 39, -10 ** 39):
                with self.assertRaises(InvalidNumber) as caught:
                    made("ab", number)
                self.assertIs(caught.exception.value, number)


class LeadingTest(unittest.TestCase):

    def test_call_and_action(self):
        for box in MANY + [GREATER]:
            for word in slow_words(box.letters, 4):
                self.assertEqual(box(word), slow_led(box.table, box.letters, 0, word))
                self.assertEqual(box.action(word), slow_action(box.table, box.letters, word))

    def test_long_words(self):
        box = Box.caps("ab", 9)
        self.assertEqual(box("ab" * 50000), 99)
        self.assertEqual(box.action("ab" * 50000), (99,) * 100)
        self.assertEqual(box.action("b" * 399), tuple(90 + place % 10 for place in range(100)))
        self.assertEqual(Box.window("ab", 4).action("ab" * 200), (Box.window("ab", 4)("abab"),) * 31)

    def test_place(self):
        for box in MANY:
            for word in slow_words(box.letters, 3):
                for start in range(len(box)):
                    self.assertEqual(box.place(word, start), slow_led(box.table, box.letters, start, word))
                    for times in range(6):
                        told = slow_led(box.table, box.letters, start, word * times)
                        self.assertEqual(box.place(word, start, times=times), told)
                    # Behind as many times as there are places nothing changes any more.
                    told = slow_led(box.table, box.letters, start, word * len(box))
                    for times in (10 ** 11, 10 ** 11 - 1):
                        self.assertEqual(box.place(word, start, times=times), told)

    def test_lag(self):
        for box in MANY + [GREATER]:
            for word in slow_words(box.letters, 4):
                lag = box.lag(word)
                acts = [slow_action(box.table, box.letters, word * times) for times in range(len(box) + 1)]
                told = min(times for times in range(len(box)) if acts[times] == acts[times + 1])
                self.assertEqual(lag, told)
                self.assertLess(lag, len(box))
        self.assertEqual([box.lag("") for box in (ONE, LATCH, FOUR)], [0, 0, 0])
        self.assertEqual([ONE.lag("a"), FOUR.lag("y"), FOUR.lag("yy"), FOUR.lag("z")], [0, 3, 2, 0])

    def test_wrong_words(self):
        for word in NO_WORDS:
            for call in CALLS:
                with self.assertRaises(InvalidWord):
                    call(LATCH, word)
        for word in ("c", "abc", "z" * 400):
            for call in CALLS:
                with self.assertRaises(InvalidOperation):
                    call(LATCH, word)
            with self.assertRaises(InvalidOperation):
                LATCH.place(word, 1, times=0)

    def test_wrong_numbers(self):
        for start in NO_NUMBERS + (-1, 2, 10 ** 39, True, False):
            with self.assertRaises(InvalidNumber) as caught:
                LATCH.place("a", start)
            self.assertIs(caught.exception.value, start)
        for times in NO_NUMBERS + (-1, 10 ** 11 + 1, 10 ** 39, True, False):
            with self.assertRaises(InvalidNumber) as caught:
                LATCH.place("a", 1, times=times)
            self.assertIs(caught.exception.value, times)

    def test_the_first_error_that_applies(self):
        with self.assertRaises(InvalidWord):
            LATCH.place("C", 9, times=-1)
        with self.assertRaises(InvalidNumber) as caught:
            LATCH.place("c", 9, times=-1)
        self.assertEqual(caught.exception.value, 9)
        with self.assertRaises(InvalidNumber) as caught:
            LATCH.place("c", 1, times=-1)
        self.assertEqual(caught.exception.value, -1)
        with self.assertRaises(InvalidOperation):
            LATCH.place("c", 1, times=1)
        with self.assertRaises(TypeError):
            LATCH.place("a", 1, 1)


class OtherTest(unittest.TestCase):

    def test_first_word(self):
        for box in MANY + [GREATER]:
            firsts = slow_firsts(box)
            for place in range(len(box)):
                self.assertEqual(box.first_word(place), firsts.get(place))
        for place in NO_NUMBERS + (-1, 2, 10 ** 39, True, False):
            with self.assertRaises(InvalidNumber) as caught:
                LATCH.first_word(place)
            self.assertIs(caught.exception.value, place)

    def test_lean(self):
        for box in MANY + [GREATER]:
            firsts = slow_firsts(box)
            order = sorted(firsts, key=lambda place: (len(firsts[place]), firsts[place]))
            told = tuple(tuple(order.index(goal) for goal in box.table[place]) for place in order)
            self.assertIs(type(box.lean()), Box)
            self.assertEqual((box.lean().letters, box.lean().table), (box.letters, told))
        turned = Box("ab", ((3, 2), (1, 1), (2, 2), (1, 3)))
        self.assertEqual(turned.lean().table, ((1, 2), (3, 1), (2, 2), (3, 3)))
        self.assertEqual(Box("ab", ((2, 0), (0, 1), (2, 2))).lean().table, ((1, 0), (1, 1)))

    def test_equal_lean_boxes(self):
        words = slow_words("ab", 4)
        some = all_boxes("ab", 2) + some_boxes("ab", 3, 12)
        parts = [tuple(words.index(next(v for v in words if box(v) == box(w))) for w in words) for box in some]
        for one, first in zip(some, parts):
            for other, second in zip(some, parts):
                self.assertIs(one.lean() == other.lean(), first == second)

    def test_machine(self):
        for box in MANY:
            for size in range(len(box) + 1):
                for some in itertools.combinations(range(len(box)), size):
                    machine = box.machine(some)
                    self.assertIs(type(machine), Machine)
                    self.assertEqual((machine.letters, machine.table, machine.ends), (box.letters, box.table, some))
                    self.assertIs(is_still(machine), True)
        self.assertEqual(len(GREATER.machine((0, 5)).ends), 2)

    def test_wrong_places(self):
        wrong = ((1, 0), (0, 0), (2,), (-1,), (0, 1, 2), [0], [], {}, {0: 1}, "0", None, 0, True, (True,), (False, 1))
        for some in wrong + tuple(value for value in NO_BOXES if value not in ((), (0,), (0, 1))):
            with self.assertRaises(InvalidOperation):
                LATCH.machine(some)

    def test_and(self):
        words = slow_words("ab", 5)
        some = all_boxes("ab", 2) + some_boxes("ab", 3, 12) + some_boxes("ab", 4, 12)
        for one in some:
            for other in some:
                both = one & other
                self.assertIs(type(both), Box)
                self.assertEqual(both.letters, "ab")
                told = {}
                for word in words:
                    told.setdefault(both(word), set()).add((one(word), other(word)))
                pairs = [pair for group in told.values() for pair in group]
                self.assertEqual([len(group) for group in told.values()], [1] * len(told))
                self.assertEqual(len(set(pairs)), len(pairs))
        for one, other in zip(some[::3], some[1::3]):
            self.assertIs(slow_first_turn((one & other).table, "ab"), None)

    def test_and_of_greater_boxes(self):
        self.assertEqual(len(GREATER.lean()), len(GREATER))
        for word in slow_words("ab", 6):
            for other in slow_words("ab", 3):
                same = (
                    Box.window("ab", 2)(word) == Box.window("ab", 2)(other)
                    and Box.caps("ab", 2)(word) == Box.caps("ab", 2)(other)
                )
                self.assertIs(GREATER(word) == GREATER(other), same)

    def test_and_with_wrong_operands(self):
        for value in NO_BOXES + (Machine("ab", ((0, 0),)),):
            with self.assertRaises(InvalidBox):
                LATCH & value
        for other in (ONE, FOUR, Box("b", ((0,),)), Box("ac", ((0, 0),))):
            with self.assertRaises(InvalidOperation):
                LATCH & other
            with self.assertRaises(InvalidOperation):
                other & LATCH

    def test_len_and_str(self):
        self.assertEqual([len(box) for box in (ONE, LATCH, FOUR)], [1, 2, 4])
        told = ["box of 1 places for a", "box of 2 places for ab", "box of 4 places for yz", "box of 100 places for ab"]
        self.assertEqual([str(box) for box in (ONE, LATCH, FOUR, Box.caps("ab", 9))], told)

    def test_equal(self):
        self.assertIs(LATCH == Box("ab", ((1, 0), (1, 1))), True)
        self.assertIs(LATCH != Box("ab", ((1, 0), (1, 1))), False)
        self.assertIs(Box.window("ab", 1) == Box("ab", ((1, 2), (1, 2), (1, 2))), True)
        others = (Box("ac", ((1, 0), (1, 1))), Box("ab", ((1, 0), (1, 0))), Box("ab", ((0, 0),)), ONE)
        for other in others + NO_BOXES + (Machine("ab", ((1, 0), (1, 1))), ("ab", ((1, 0), (1, 1)))):
            self.assertIs(LATCH == other, False)
            self.assertIs(other == LATCH, False)
            self.assertIs(LATCH != other, True)

    def test_cannot_be_iterated(self):
        for box in (ONE, LATCH, GREATER):
            with self.assertRaises(TypeError):
                iter(box)
            with self.assertRaises(TypeError):
                list(box)
            with self.assertRaises(TypeError):
                box[0]

    def test_calls_change_nothing(self):
        box = Box("ab", ((1, 2), (3, 1), (2, 3), (3, 3)))
        answers = []
        for _ in range(2):
            answers.append((
                box("ab"), box.place("ab", 1, times=5), box.action("ab"), box.lag("ab"), box.first_word(3),
                box.lean().table, (box & LATCH).table, box.machine((0, 2)).table, str(box), len(box),
            ))
            for call in (lambda: box("c"), lambda: box & ONE, lambda: box.machine((4,)), lambda: box.place("a", 4)):
                with self.assertRaises(Exception):
                    call()
        self.assertEqual(answers[0], answers[1])
        self.assertEqual(box, Box("ab", ((1, 2), (3, 1), (2, 3), (3, 3))))


if __name__ == "__main__":
    unittest.main()
