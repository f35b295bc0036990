"""Machines: how they are made, and what they answer."""

import unittest

from neverturns.base import machines
from neverturns.base.machines import Machine
from neverturns.errors import InvalidMachine, InvalidNumber, InvalidOperation, InvalidWord
from tests.support import NO_LETTERS, NO_MACHINES, NO_NUMBERS, NO_WORDS
from tests.support import all_machines, slow_after, slow_has, slow_words, some_machines

EVEN = Machine("ab", ((1, 0), (0, 1)), (0,))
STARTS = Machine("ab", ((1, 2), (1, 1), (2, 2)), (1,))
FOUR = Machine("yz", ((1, 0), (2, 1), (3, 2), (0, 3)), (0, 1, 2, 3))
NONE = Machine("a", ((0,),))
MANY = (
    all_machines("c", 1) + all_machines("c", 2) + all_machines("ab", 1) + all_machines("ab", 2)
    + some_machines("a", 4, 40) + some_machines("ab", 3, 40) + some_machines("by", 4, 40)
)


class MakingTest(unittest.TestCase):

    def test_constants(self):
        self.assertEqual((machines.MAX_STATES, machines.MAX_TIMES), (4, 10 ** 11))

    def test_properties(self):
        self.assertEqual((STARTS.letters, STARTS.table, STARTS.ends), ("ab", ((1, 2), (1, 1), (2, 2)), (1,)))
        self.assertEqual((FOUR.letters, FOUR.table[3], FOUR.ends), ("yz", (0, 3), (0, 1, 2, 3)))
        self.assertEqual((NONE.letters, NONE.table, NONE.ends), ("a", ((0,),), ()))

    def test_wrong_letters(self):
        for letters in NO_LETTERS:
            with self.assertRaises(InvalidMachine):
                Machine(letters, ((0, 0),), ())
            with self.assertRaises(InvalidMachine):
                Machine(letters, ((0,),))

    def test_wrong_tables(self):
        tables = (
            (), ((),), ((0,),), ((0, 0, 0),), ((0, 1),), ((0, -1),), ((0, 0), (2, 0)), ((0, 0), (0,)),
            ((0, 0),) * 5, ((0, 0),) * 400, [(0, 0)], ([0, 0],), ((0, 0), [0, 0]), ((0, 0), "ab"), ({}, {}),
            ((0, False),), ((1, 0), (True, 0)), ((0, None),), ((0, "0"),), ((0, (0,)),), ((0, [0]),),
            ((0, 10 ** 39),), ((0, EVEN),), (EVEN,), ({0: 0, 1: 0},), "ab", ("ab", "ab"), {0: (0, 0)},
        )
        for table in tables + NO_MACHINES + (EVEN,):
            if table not in (((1, 0), (0, 1)),):
                with self.assertRaises(InvalidMachine):
                    Machine("ab", table, ())
        for table in (((0, 0),), ((1,),), ((0,), (2,)), ((False,),), ((0,),) * 5):
            with self.assertRaises(InvalidMachine):
                Machine("a", table)

    def test_wrong_ends(self):
        table = ((1, 0), (0, 1))
        ends = ((2,), (-1,), (1, 0), (0, 0), (0, 1, 2), [0], [], {}, {0: 1}, (True,), (False,), (0, True))
        more = (("0",), "0", "", None, 0, ((0,),), ([0],), (None,), (EVEN,), EVEN, (10 ** 39,), True)
        for some in ends + more:
            with self.assertRaises(InvalidMachine):
                Machine("ab", table, some)
        for some in NO_MACHINES:
            if some not in ((), (0,), (0, 1)):
                with self.assertRaises(InvalidMachine):
                    Machine("ab", table, some)

    def test_ends_can_be_left_out(self):
        self.assertEqual(Machine("a", ((0,),)), Machine("a", ((0,),), ()))

    def test_ends_are_counted_by_states(self):
        self.assertEqual(Machine("a", ((0,),), (0,)).ends, (0,))
        with self.assertRaises(InvalidMachine):
            Machine("a", ((0,),), (1,))


class NeverChangeTest(unittest.TestCase):

    def test_properties_cannot_be_set(self):
        for name in ("letters", "table", "ends", "is_empty", "is_full"):
            with self.assertRaises(AttributeError):
                setattr(STARTS, name, ())

    def test_what_is_returned_cannot_be_changed(self):
        for machine in MANY + [~STARTS, EVEN & STARTS, FOUR.least()]:
            self.assertIs(type(machine.table), tuple)
            self.assertIs(type(machine.ends), tuple)
            self.assertEqual([type(line) for line in machine.table], [tuple] * len(machine))

    def test_calls_change_nothing(self):
        machine = Machine("ab", ((1, 2), (3, 1), (2, 2), (3, 0)), (1, 3))
        answers = []
        for _ in range(2):
            answers.append((
                list(machine.words(5)), machine.first_word(), machine.least().table, (~machine).table,
                (machine | EVEN).table, (machine & EVEN).table, (machine - EVEN).table, machine.after("ab", times=7),
                machine.is_empty, machine.is_full, str(machine), machine.letters, machine.table, machine.ends,
            ))
            for call in (lambda: machine | 1, lambda: machine & NONE, lambda: machine.after("c")):
                with self.assertRaises(Exception):
                    call()
        self.assertEqual(answers[0], answers[1])
        self.assertEqual(machine, Machine("ab", ((1, 2), (3, 1), (2, 2), (3, 0)), (1, 3)))

    def test_cannot_be_iterated(self):
        for machine in (EVEN, NONE, ~STARTS):
            with self.assertRaises(TypeError):
                iter(machine)
            with self.assertRaises(TypeError):
                list(machine)
            with self.assertRaises(TypeError):
                machine[0]


class AfterTest(unittest.TestCase):

    def test_all_words(self):
        for machine in MANY:
            for word in slow_words(machine.letters, 4):
                self.assertEqual(machine.after(word), slow_after(machine, word))

    def test_times(self):
        for machine in MANY:
            for word in slow_words(machine.letters, 3):
                for times in (0, 1, 2, 3, 4, 5, 6, 7, 60):
                    self.assertEqual(machine.after(word, times=times), slow_after(machine, word * times))

    def test_many_times(self):
        for machine in MANY:
            for word in slow_words(machine.letters, 3):
                for times in (10 ** 11, 10 ** 11 - 1, 10 ** 11 - 5):
                    # With at most four states all rounds divide 12.
                    told = slow_after(machine, word * (12 + times % 12))
                    self.assertEqual(machine.after(word, times=times), told)

    def test_long_words(self):
        self.assertEqual(EVEN.after("a" * 399), 1)
        self.assertEqual(EVEN.after("ab" * 50000, times=10 ** 11), 0)

    def test_wrong_words(self):
        for word in NO_WORDS:
            with self.assertRaises(InvalidWord):
                EVEN.after(word)

    def test_wrong_times(self):
        for times in NO_NUMBERS + (-1, 10 ** 11 + 1, 10 ** 39, True, False):
            with self.assertRaises(InvalidNumber) as caught:
                EVEN.after("a", times=times)
            self.assertIs(caught.exception.value, times)

    def test_wrong_letters(self):
        for word in ("c", "abc", "aabz"):
            for times in (0, 1, 10 ** 11):
                with self.assertRaises(InvalidOperation):
                    EVEN.after(word, times=times)

    def test_the_first_error_that_applies(self):
        with self.assertRaises(InvalidWord):
            EVEN.after("C", times=-1)
        with self.assertRaises(InvalidNumber):
            EVEN.after("c", times=-1)

    def test_times_is_passed_by_keyword(self):
        with self.assertRaises(TypeError):
            EVEN.after("a", 2)


class WordsTest(unittest.TestCase):

    def test_words_in_their_order(self):
        for machine in MANY:
            told = [word for word in slow_words(machine.letters, 6) if slow_has(machine, word)]
            self.assertEqual(list(machine.words(6)), told)

    def test_edges(self):
        self.assertEqual([list(EVEN.words(0)), list(STARTS.words(0)), list(NONE.words(8))], [[""], [], []])
        self.assertEqual(len(list(FOUR.words(8))), 511)

    def test_wrong_numbers(self):
        for most in NO_NUMBERS + (-1, 9, 10 ** 39, True, False):
            made = EVEN.words(most)
            with self.assertRaises(InvalidNumber) as caught:
                next(made)
            self.assertIs(caught.exception.value, most)

    def test_first_word(self):
        for machine in MANY:
            told = [word for word in slow_words(machine.letters, 4) if slow_has(machine, word)]
            self.assertEqual(machine.first_word(), (told + [None])[0])

    def test_first_word_is_the_shortest(self):
        self.assertEqual(Machine("ab", ((1, 2), (3, 1), (3, 2), (3, 3)), (3,)).first_word(), "aa")
        self.assertEqual(Machine("ab", ((1, 2), (1, 3), (3, 2), (3, 3)), (3,)).first_word(), "ab")
        self.assertEqual(Machine("ab", ((1, 2), (1, 1), (2, 2)), (2,)).first_word(), "b")
        self.assertEqual(NONE.first_word(), None)

    def test_is_empty_and_is_full(self):
        for machine in MANY:
            found = [slow_has(machine, word) for word in slow_words(machine.letters, 4)]
            self.assertIs(machine.is_empty, not any(found))
            self.assertIs(machine.is_full, all(found))

    def test_states_to_which_no_word_leads(self):
        self.assertIs(Machine("a", ((0,), (1,)), (1,)).is_empty, True)
        self.assertIs(Machine("a", ((0,), (1,)), (0,)).is_full, True)

    def test_contains(self):
        for machine in MANY:
            for word in slow_words(machine.letters, 5):
                self.assertIs(word in machine, slow_has(machine, word))

    def test_contains_accepts_every_value(self):
        everything = Machine("ab", ((0, 0),), (0,))
        for value in NO_WORDS + ("c", "abc", "abz"):
            self.assertIs(value in everything, False)
            self.assertIs(value not in everything, True)
        self.assertIs("" in everything, True)


class ValueTest(unittest.TestCase):

    def test_len_and_str(self):
        self.assertEqual([len(NONE), len(EVEN), len(STARTS), len(FOUR)], [1, 2, 3, 4])
        self.assertEqual([str(NONE), str(FOUR)], ["machine of 1 states, 0 ends", "machine of 4 states, 4 ends"])

    def test_equal(self):
        self.assertIs(EVEN == Machine("ab", ((1, 0), (0, 1)), (0,)), True)
        self.assertIs(EVEN != Machine("ab", ((1, 0), (0, 1)), (0,)), False)

    def test_not_equal(self):
        others = (
            Machine("ac", ((1, 0), (0, 1)), (0,)), Machine("ab", ((1, 0), (0, 1)), (1,)),
            Machine("ab", ((1, 0), (0, 1)), (0, 1)), Machine("ab", ((1, 0), (0, 0)), (0,)),
            Machine("ab", ((1, 0), (0, 1), (0, 0)), (0,)),
        )
        for other in others:
            self.assertIs(EVEN == other, False)
            self.assertIs(EVEN != other, True)

    def test_equal_machines_are_not_just_those_with_equal_words(self):
        wide = Machine("ab", ((1, 0), (0, 1), (2, 2)), (0,))
        self.assertIs(wide == EVEN, False)
        self.assertIs(wide.least() == EVEN, True)

    def test_every_value_can_be_compared(self):
        for value in NO_MACHINES + (("ab", ((1, 0), (0, 1)), (1,)), EVEN.table, [EVEN]):
            same = isinstance(value, Machine) and value.ends == (0,)
            self.assertIs(EVEN == value, same)
            self.assertIs(value == EVEN, same)
            self.assertIs(EVEN != value, not same)


if __name__ == "__main__":
    unittest.main()
