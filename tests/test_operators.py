"""Least machines and the operators, against slow checks on many machines."""

import unittest

from neverturns.base.machines import Machine
from neverturns.errors import InvalidMachine, InvalidOperation
from tests.support import NO_MACHINES, all_machines, is_slowly_least, slow_words, some_machines, spoken

LONGEST = 7
SINGLE = all_machines("a", 1) + all_machines("a", 2) + some_machines("a", 3, 12) + some_machines("a", 4, 12)
DOUBLE = all_machines("ab", 1) + some_machines("ab", 2, 12) + some_machines("ab", 3, 12) + some_machines("ab", 4, 12)
ALONE = SINGLE + DOUBLE + all_machines("ab", 2) + some_machines("by", 3, 60) + some_machines("by", 4, 60)


class LeastTest(unittest.TestCase):

    def check(self, made, letters, told):
        self.assertIs(type(made), Machine)
        self.assertEqual(made.letters, letters)
        self.assertEqual(spoken(made, LONGEST), told)
        self.assertTrue(is_slowly_least(made), made.table)

    def test_least(self):
        for machine in ALONE:
            self.check(machine.least(), machine.letters, spoken(machine, LONGEST))
            self.assertEqual(machine.least().least(), machine.least())

    def test_states_are_numbered_by_first_words(self):
        turned = Machine("ab", ((3, 2), (1, 1), (2, 2), (1, 3)), (1,))
        self.assertEqual(turned.least().table, ((1, 2), (3, 1), (2, 2), (3, 3)))
        self.assertEqual(turned.least().ends, (3,))

    def test_edges(self):
        no_ends = Machine("ab", ((1, 2), (3, 1), (2, 2), (0, 0)))
        all_ends = Machine("ab", ((1, 2), (3, 1), (2, 2), (0, 0)), (0, 1, 2, 3))
        self.assertEqual(no_ends.least(), Machine("ab", ((0, 0),)))
        self.assertEqual(all_ends.least(), Machine("ab", ((0, 0),), (0,)))
        self.assertEqual(~all_ends, Machine("ab", ((0, 0),)))
        self.assertEqual(~no_ends, Machine("ab", ((0, 0),), (0,)))

    def test_invert(self):
        for machine in ALONE:
            self.check(~machine, machine.letters, set(slow_words(machine.letters, LONGEST)) - spoken(machine, LONGEST))
            self.assertEqual(~~machine, machine.least())

    def test_two_machines(self):
        for group in (SINGLE, DOUBLE):
            for one in group:
                for other in group:
                    first, second = spoken_of(one), spoken_of(other)
                    self.check(one | other, one.letters, first | second)
                    self.check(one & other, one.letters, first & second)
                    self.check(one - other, one.letters, first - second)

    def test_equal_words_and_equal_least_machines(self):
        for group in (SINGLE, DOUBLE):
            for one in group:
                for other in group:
                    # Words of up to seven letters tell machines with four states apart.
                    self.assertEqual(one.least() == other.least(), spoken_of(one) == spoken_of(other))

    def test_greater_machines(self):
        three = Machine("ab", ((1, 0), (2, 1), (0, 2)), (0,))
        four = Machine("ab", ((0, 1), (1, 2), (2, 3), (3, 0)), (0,))
        both = three & four
        self.assertEqual(len(both), 12)
        self.check(both, "ab", spoken(three, LONGEST) & spoken(four, LONGEST))
        self.assertEqual(~both, ~three | ~four)
        self.assertEqual(both - three, Machine("ab", ((0, 0),)))
        self.assertEqual(both | both, both)
        self.assertEqual(both.least(), both)
        self.assertEqual(both.after("a", times=10 ** 11), both.after("a" * (10 ** 11 % 3)))
        self.assertEqual((both - Machine("ab", ((1, 1), (1, 1)), (0,))).first_word(), "aaa")
        self.assertEqual(str(both), "machine of 12 states, 1 ends")

    def test_long_rows_of_machines(self):
        made = Machine("a", ((0,),), (0,))
        for size in (2, 3, 4):
            table = tuple(((state + 1) % size,) for state in range(size))
            made = made & Machine("a", table, (size - 1,))
        self.assertEqual((len(made), made.first_word()), (12, "a" * 11))


class WrongOperandTest(unittest.TestCase):

    def test_what_is_no_machine(self):
        machine = Machine("xy", ((1, 0), (0, 1)), (0,))
        for value in NO_MACHINES:
            error = InvalidOperation if isinstance(value, Machine) else InvalidMachine
            with self.assertRaises(error):
                machine | value
            with self.assertRaises(error):
                machine & value
            with self.assertRaises(error):
                machine - value

    def test_other_letters(self):
        one = Machine("a", ((0,),), (0,))
        for other in (Machine("b", ((0,),), (0,)), Machine("ab", ((0, 0),), (0,)), Machine("az", ((0, 0),))):
            for left, right in ((one, other), (other, one)):
                with self.assertRaises(InvalidOperation):
                    left | right
                with self.assertRaises(InvalidOperation):
                    left & right
                with self.assertRaises(InvalidOperation):
                    left - right

    def test_operands_do_not_change(self):
        one = Machine("ab", ((1, 2), (1, 1), (2, 2)), (1,))
        other = Machine("ab", ((1, 0), (0, 1)), (0,))
        made = one
        made |= other
        self.assertEqual(one, Machine("ab", ((1, 2), (1, 1), (2, 2)), (1,)))
        self.assertEqual(other, Machine("ab", ((1, 0), (0, 1)), (0,)))
        self.assertEqual(made, one | other)


KNOWN = {}


def spoken_of(machine):
    """As spoken, but worked out once for each machine."""
    if id(machine) not in KNOWN:
        KNOWN[id(machine)] = spoken(machine, LONGEST)
    return KNOWN[id(machine)]


if __name__ == "__main__":
    unittest.main()
