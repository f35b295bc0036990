"""Actions and turns, against slow searches by words."""

import unittest

from neverturns.base.joined import of_words, repeated
from neverturns.base.machines import Machine
from neverturns.errors import InvalidMachine, InvalidOperation, InvalidWord, TooMany
from neverturns.still import turns
from neverturns.still.boxes import Box
from neverturns.still.turns import actions, first_turn, is_calm, is_still, is_turn, settles, word_of
from tests.support import NO_MACHINES, NO_WORDS
from tests.support import all_machines, all_tables, chain, slow_action, slow_actions, slow_first_turn, slow_is_turn
from tests.support import slow_words, some_machines

EVEN = Machine("ab", ((1, 0), (0, 1)), (0,))
STARTS = Machine("ab", ((1, 2), (1, 1), (2, 2)), (1,))
# Just one action more than is let, and one less.
MANY = Machine("ab", ((3, 1), (2, 3), (0, 1), (2, 0)), (0,))
FEWER = Machine("ab", ((3, 1), (0, 2), (0, 3), (1, 2)), (0,))
MACHINES = [
    machine for machine in (
        all_machines("c", 1) + all_machines("c", 2) + all_machines("ab", 1) + all_machines("ab", 2)
        + some_machines("a", 3, 20) + some_machines("a", 4, 40) + some_machines("ab", 3, 60)
        + some_machines("by", 4, 40)
    ) if len(slow_actions(machine.table, machine.letters)) <= 60
]
CALLS = (
    actions, first_turn, is_still, is_calm, lambda machine: word_of(machine, (0,) * len(machine)),
    lambda machine: settles(machine, ""), lambda machine: is_turn(machine, None),
    lambda machine: is_turn(machine, ("a", 0)),
)


def slow_settles(table, letters, word):
    """By all sums of both numbers, the least first number, and then the least second one."""
    powers = [slow_action(table, letters, word * times) for times in range(20)]
    for number in range(8):
        for many in range(1, 13):
            if powers[number] == powers[number + many]:
                return number, many
    return None


class ActionsTest(unittest.TestCase):

    def test_constant(self):
        self.assertEqual(turns.MAX_ACTIONS, 60)

    def test_actions(self):
        for machine in MACHINES:
            found = slow_actions(machine.table, machine.letters)
            self.assertEqual(actions(machine), tuple(found))

    def test_actions_by_all_words(self):
        for machine in MACHINES:
            told = []
            for word in slow_words(machine.letters, 5):
                action = slow_action(machine.table, machine.letters, word)
                if action not in told:
                    told.append(action)
            self.assertEqual(list(actions(machine))[:len(told)], told)

    def test_word_of(self):
        for machine in MACHINES:
            found = slow_actions(machine.table, machine.letters)
            size = len(machine)
            for code in range(size ** size):
                action = tuple(code // size ** at % size for at in range(size))
                self.assertEqual(word_of(machine, action), found.get(action))

    def test_wrong_actions(self):
        wrong = (
            (), (0,), (0, 1, 0), (0, 2), (0, -1), [0, 1], "ab", (True, False), (False, 1), (0, None), ((0,), (1,)),
            (0, "1"), {0: 1, 1: 0}, (0, 10 ** 39), EVEN,
        )
        for action in wrong + tuple(value for value in NO_MACHINES if value != (0, 1)):
            for machine in (EVEN, MANY):
                with self.assertRaises(InvalidOperation):
                    word_of(machine, action)

    def test_settles(self):
        for machine in MACHINES:
            for word in slow_words(machine.letters, 4):
                told = slow_settles(machine.table, machine.letters, word)
                self.assertEqual(settles(machine, word), told)

    def test_settles_at_the_edges(self):
        self.assertEqual(settles(EVEN, ""), (0, 1))
        self.assertEqual(settles(EVEN, "a" * 399), (0, 2))
        self.assertEqual(settles(EVEN, "ab" * 50000), (0, 1))
        self.assertEqual(settles(chain(60), "a"), (59, 1))
        self.assertEqual(settles(chain(60), "aa"), (30, 1))

    def test_settles_with_wrong_words(self):
        for word in NO_WORDS:
            for machine in (EVEN, MANY):
                with self.assertRaises(InvalidWord):
                    settles(machine, word)
        for word in ("c", "abc", "z" * 400):
            for machine in (EVEN, MANY):
                with self.assertRaises(InvalidOperation):
                    settles(machine, word)


class TurnsTest(unittest.TestCase):

    def test_first_turn(self):
        for machine in MACHINES:
            self.assertEqual(first_turn(machine), slow_first_turn(machine.table, machine.letters))

    def test_first_turn_by_all_words(self):
        for machine in MACHINES:
            found = [
                (word, state) for word in slow_words(machine.letters, 4) for state in range(len(machine))
                if slow_is_turn(machine.table, machine.letters, word, state)
            ]
            if found:
                self.assertEqual(first_turn(machine), found[0])

    def test_turns_of_states_to_which_no_word_leads(self):
        machine = Machine("a", ((0,), (2,), (1,)), (0,))
        self.assertEqual([first_turn(machine), is_still(machine), is_calm(machine)], [("a", 1), False, True])
        self.assertIs(is_turn(machine, ("aaa", 2)), True)

    def test_is_turn(self):
        for machine in MACHINES:
            for word in slow_words(machine.letters, 3):
                for state in range(len(machine)):
                    told = slow_is_turn(machine.table, machine.letters, word, state)
                    self.assertIs(is_turn(machine, (word, state)), told)

    def test_is_turn_of_long_words(self):
        self.assertIs(is_turn(EVEN, ("b" * 777 + "a" * 999, 1)), True)
        self.assertIs(is_turn(EVEN, ("ab" * 50000, 1)), False)

    def test_is_turn_refuses_no_value(self):
        wrong = (
            ("a", 2), ("a", -1), ("a", True), ("a", False), ("a", None), ("a", "0"), ("A", 0), ("c", 0), ("ac", 0),
            ["a", 0], ("a",), ("a", 0, 0), (0, "a"), (("a",), 0), (True, 0), ("a", (0,)), ("a", EVEN), "a0", {"a": 0},
            ("a", 10 ** 39), ("", 0), ("b", 0), (None, 0), (["a"], 0),
        )
        for value in wrong + NO_MACHINES + (EVEN,):
            self.assertIs(is_turn(EVEN, value), False)

    def test_is_still_and_is_calm(self):
        for machine in MACHINES:
            still = slow_first_turn(machine.table, machine.letters) is None
            least = machine.least()
            self.assertIs(is_still(machine), still)
            self.assertIs(is_calm(machine), slow_first_turn(least.table, least.letters) is None)
            rounds = [settles(machine, word)[1] for word in slow_actions(machine.table, machine.letters).values()]
            self.assertIs(is_still(machine), set(rounds) == {1})

    def test_calm_machines_that_go_round(self):
        machine = Machine("ab", ((1, 0), (0, 1)), (0, 1))
        self.assertEqual([is_still(machine), is_calm(machine)], [False, True])
        self.assertEqual([is_still(EVEN), is_calm(EVEN), is_still(STARTS), is_calm(STARTS)], [False, False, True, True])


class ErrorsTest(unittest.TestCase):

    def test_no_machine(self):
        for value in NO_MACHINES:
            if not isinstance(value, Machine):
                for call in (actions, first_turn, is_still, is_calm):
                    with self.assertRaises(InvalidMachine):
                        call(value)
                for word in ("a", "A", None):
                    with self.assertRaises(InvalidMachine):
                        settles(value, word)
                for action in ((0,), None):
                    with self.assertRaises(InvalidMachine):
                        word_of(value, action)
                    with self.assertRaises(InvalidMachine):
                        is_turn(value, action)

    def test_how_many_actions_are_let(self):
        self.assertEqual(len(slow_actions(MANY.table, "ab")), 61)
        self.assertEqual(len(slow_actions(FEWER.table, "ab")), 59)
        self.assertEqual(len(slow_actions(chain(60).table, "a")), 60)
        for machine in (FEWER, chain(60)):
            self.assertEqual(actions(machine), tuple(slow_actions(machine.table, machine.letters)))
            for call in CALLS:
                call(machine)
        self.assertEqual([first_turn(chain(60)), is_still(chain(60)), is_calm(chain(60))], [None, True, True])
        for machine in (MANY, chain(61), chain(62), Box.caps("ab", 9).machine((0,))):
            for call in CALLS:
                with self.assertRaises(TooMany) as caught:
                    call(machine)
                self.assertEqual(caught.exception.limit, 60)

    def test_calm_by_few_actions_but_too_many(self):
        # The least machine has few actions, but the machine itself has too many.
        wide = Machine("ab", MANY.table, (0, 1, 2, 3))
        self.assertEqual(len(wide.least()), 1)
        with self.assertRaises(TooMany):
            is_calm(wide)

    def test_returned_machines(self):
        pairs = repeated(of_words("ab", ("abab", "a")))
        self.assertGreater(len(pairs), 4)
        self.assertEqual(actions(pairs), tuple(slow_actions(pairs.table, "ab")))
        self.assertEqual(first_turn(pairs), slow_first_turn(pairs.table, "ab"))
        self.assertEqual(word_of(pairs, actions(pairs)[5]), list(slow_actions(pairs.table, "ab").values())[5])
        window = Box.window("ab", 4).machine((3, 30))
        self.assertEqual([len(window), is_still(window), is_calm(window)], [31, True, True])
        self.assertEqual(settles(window, "aab"), (2, 1))
        self.assertEqual(settles(window, "a"), (4, 1))

    def test_nothing_is_changed(self):
        machine = Machine("ab", ((1, 2), (3, 1), (2, 2), (3, 0)), (1, 3))
        answers = [[call(machine) for call in CALLS[:4]] for _ in range(2)]
        self.assertEqual(answers[0], answers[1])
        self.assertEqual(machine.table, ((1, 2), (3, 1), (2, 2), (3, 0)))
        for _ in range(2):
            with self.assertRaises(TooMany):
                actions(MANY)


class AllTablesTest(unittest.TestCase):

    def test_all_tables_of_three_states(self):
        for table in all_tables("a", 3) + all_tables("ab", 2):
            machine = Machine("ab"[:len(table[0])], table)
            self.assertEqual(first_turn(machine), slow_first_turn(table, machine.letters))


if __name__ == "__main__":
    unittest.main()
