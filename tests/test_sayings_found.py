"""Sayings found, against words and slow checks."""

import itertools
import unittest

from neverturns.base.joined import chained, common_word, of_words, repeated
from neverturns.base.machines import Machine
from neverturns.cloud.finding import blur
from neverturns.errors import InvalidBox, InvalidMachine, InvalidOperation, Refused, TooMany
from neverturns.part.kinds import first_box
from neverturns.said.finding import box_saying, is_saying_of, is_saying_or_turn, saying_of, saying_or_turn, says_apart
from neverturns.said.sayings import both, denied, either, holds, is_saying, parting_word, saying_machine, truths
from neverturns.still.boxes import Box
from neverturns.still.sights import places
from neverturns.still.turns import is_calm
from tests.support import NO_BOXES, NO_MACHINES, NO_WORDS
from tests.support import all_boxes, all_machines, all_tables, chain, slow_actions, slow_first_turn, slow_has
from tests.support import slow_images
from tests.support import slow_is_turn, slow_led, slow_words, some_boxes, some_machines
from tests.test_sayings import ALWAYS, NEVER, SAYINGS, counter, window

EVEN = Machine("ab", ((1, 0), (0, 1)), (0,))
ODD = Machine("ab", ((1, 0), (0, 1)), (1,))
STARTS = Machine("ab", ((1, 2), (1, 1), (2, 2)), (1,))
OTHERS = Machine("ab", ((1, 2), (1, 1), (2, 2)), (0, 2))
CLOSES = Machine("ab", ((1, 0), (1, 0)), (1,))
LATER = Machine("ab", ((0, 1), (0, 1)), (1,))
NONE = Machine("ab", ((0, 0),))
ALL = Machine("ab", ((0, 0),), (0,))
ALONE = Machine("a", ((0,),), (0,))
LATCH = Box("ab", ((1, 0), (1, 1)))
A = (("letter", "a"),)
SEEN = (("letter", "a"), ("not", 0), ("either", 0, 1), ("since", 2, 0))
MACHINES = (
    all_machines("a", 1) + all_machines("a", 2) + all_machines("ab", 1) + all_machines("ab", 2)
    + some_machines("a", 3, 20) + some_machines("a", 4, 30) + some_machines("ab", 3, 60) + some_machines("by", 4, 60)
    + [box.machine((0, 2)) for box in some_boxes("ab", 3, 25) + some_boxes("by", 4, 40)]
    + [box.machine((1, 3)) for box in some_boxes("ab", 4, 30)] + [EVEN, STARTS, OTHERS, CLOSES, LATER]
)


def truths_behind(letters, saying):
    """The different truths behind words, as far as they are 1000 or less, word by word."""
    found = {}
    row = [""]
    while row and len(found) <= 1000:
        new = []
        for word in row:
            told = truths(saying, word)
            if told not in found:
                found[told] = word
                new.append(word)
        row = [word + letter for word in new for letter in letters]
    return found


class SayingOfTest(unittest.TestCase):

    def check(self, machine, saying):
        self.assertIs(is_saying(saying), True)
        self.assertLessEqual(len(saying), 20000)
        self.assertLessEqual(len(truths_behind(machine.letters, saying)), 1000)
        for word in slow_words(machine.letters, 6 if len(machine.letters) == 2 else 12):
            self.assertIs(holds(saying, word), slow_has(machine, word))
        self.assertEqual(saying_machine(machine.letters, saying), machine.least())
        self.assertIs(is_saying_of(machine, saying), True)
        self.assertIs(is_saying_of(~machine, saying), False)

    def test_saying_or_turn(self):
        found = {}
        for machine in MACHINES:
            least = machine.least()
            turn = slow_first_turn(least.table, least.letters)
            found[turn is None, len(least)] = True
            told = saying_or_turn(machine)
            self.assertIs(type(told), tuple)
            self.assertIs(is_saying_or_turn(machine, told), True)
            if turn is None:
                self.assertEqual(told[0], "saying")
                self.check(machine, told[1])
                self.assertEqual(saying_of(machine), told[1])
                if len(slow_actions(machine.table, machine.letters)) <= 60:
                    self.assertIs(is_calm(machine), True)
            else:
                self.assertEqual(told, ("turn", turn))
                with self.assertRaises(Refused) as caught:
                    saying_of(machine)
                self.assertEqual(caught.exception.reason, turn)
        self.assertEqual(len(found), 7)

    def test_some_machines_of_four_states(self):
        many = 0
        for at, table in enumerate(all_tables("ab", 4)[::131]):
            machine = Machine("ab", table, ((0,), (1,), (2, 3), (0, 3), (1, 2))[at % 5])
            least = machine.least()
            if slow_first_turn(least.table, "ab") is None:
                many += 1
                self.assertIs(is_saying_of(machine, saying_of(machine)), True)
        self.assertGreater(many, 100)

    def test_edges(self):
        for machine in (NONE, ALL, ALONE, Machine("z", ((0,),))):
            self.check(machine, saying_of(machine))
        self.check(of_words("ab", ("",)), saying_of(of_words("ab", ("",))))
        self.check(ALL - of_words("ab", ("",)), saying_of(ALL - of_words("ab", ("",))))
        self.check(chain(4), saying_of(chain(4)))

    def test_machines_with_many_states(self):
        # The least machine counts, however great the machine itself is.
        great = Box.window("ab", 4).machine(tuple(place for place in range(31) if place > 0))
        self.check(great, saying_of(great))
        caps = Box.caps("ab", 9)
        told = caps.machine(tuple(place for place in range(100) if place % 10 > 2))
        self.check(told, saying_of(told))
        still = Machine("ab", ((1, 0), (0, 1)), (0, 1))
        self.check(still, saying_of(still))

    def test_machines_with_many_actions(self):
        # The stage 4 refuses more than 60 actions, but this is no error here.
        wide = Machine("ab", ((3, 1), (2, 3), (0, 1), (2, 0)), (0,))
        self.assertEqual(saying_or_turn(wide), ("turn", slow_first_turn(wide.least().table, "ab")))
        with self.assertRaises(Refused):
            saying_of(wide)
        self.assertIs(is_saying_or_turn(wide, saying_or_turn(wide)), True)

    def test_too_many_states(self):
        for machine in (chain(5), repeated(of_words("ab", ("aabba",))), of_words("ab", ("aabba",))):
            self.assertGreater(len(machine.least()), 4)
            for call in (saying_of, saying_or_turn, lambda machine: is_saying_or_turn(machine, None),
                         lambda machine: is_saying_or_turn(machine, ("saying", A))):
                with self.assertRaises(TooMany) as caught:
                    call(machine)
                self.assertEqual(caught.exception.limit, 4)
            self.assertIs(is_saying_of(machine, A), False)

    def test_returned_sayings_are_passed_on(self):
        some = [machine for machine in MACHINES if machine.letters == "ab" and is_calm(machine)][::9]
        for one, other in zip(some, some[1:]):
            first, second = saying_of(one), saying_of(other)
            self.assertEqual(parting_word("ab", first, second),
                             None if one.least() == other.least() else ((one - other) | (other - one)).first_word())
            self.assertIs(is_saying_of(one | other, either(first, second)), True)
            self.assertIs(is_saying_of(one & other, both(first, second)), True)
            self.assertIs(is_saying_of(~one, denied(first)), True)


class IsSayingOfTest(unittest.TestCase):

    def test_is_saying_of(self):
        found = {True: 0, False: 0}
        some = [saying_machine("ab", saying) for saying in SAYINGS[:60:4]] + [CLOSES, LATER, NONE, ALL, EVEN]
        for machine in some:
            for saying in SAYINGS:
                told = saying_machine("ab", saying) == machine.least()
                found[told] += 1
                self.assertIs(is_saying_of(machine, saying), told)
        self.assertGreater(min(found.values()), 100)

    def test_great_machines_and_sayings(self):
        self.assertIs(is_saying_of(chain(61), window(59) + (("ahead", 58), ("not", 59), ("letter", "a"))), False)
        self.assertIs(is_saying_of(saying_machine("ab", counter("a", 11)), counter("a", 11)), True)
        self.assertIs(is_saying_of(saying_machine("ab", window(9)), window(9)), True)
        self.assertIs(is_saying_of(saying_machine("ab", window(9)), window(8)), False)

    def test_small_sayings_alone(self):
        # Just the words that end with a, but there are too many truths.
        self.assertIs(is_saying_of(CLOSES, window(9) + A), True)
        self.assertIs(is_saying_of(CLOSES, window(10) + A), False)
        self.assertIs(is_saying_of(Machine("a", ((1,), (1,)), (1,)), window(10) + A), True)
        self.assertIs(is_saying_or_turn(CLOSES, ("saying", window(9) + A)), True)
        self.assertIs(is_saying_or_turn(CLOSES, ("saying", window(10) + A)), False)

    def test_letters_count(self):
        self.assertIs(is_saying_of(Machine("bc", ((0, 0),)), A), True)
        self.assertIs(is_saying_of(Machine("a", ((1,), (1,)), (1,)), A), True)
        self.assertIs(is_saying_of(CLOSES, A), True)
        self.assertIs(is_saying_of(Machine("ac", ((1, 0), (1, 0)), (1,)), A), True)

    def test_is_saying_of_refuses_no_value(self):
        wrong = (
            (), (("letter", "ab"),), (("not", 0),), list(A), (["letter", "a"],), A + (None,), A + (("not", True),),
            A + (("not", 1),), ("letter", "a"), ("saying", A), {0: A}, CLOSES, LATCH, SEEN, NEVER, ALWAYS,
        )
        for value in wrong + NO_WORDS:
            self.assertIs(is_saying_of(CLOSES, value), False)

    def test_is_saying_or_turn(self):
        for machine in MACHINES[::6]:
            least = machine.least()
            for word in ("", "a", "b", "ab", "bab", "y"):
                for state in range(-1, 5):
                    told = set(word) <= set(machine.letters) and 0 <= state < len(least)
                    told = told and slow_is_turn(least.table, least.letters, word, state)
                    self.assertIs(is_saying_or_turn(machine, ("turn", (word, state))), told)
            for saying in SAYINGS[::9]:
                told = saying_machine(machine.letters, saying) == least
                self.assertIs(is_saying_or_turn(machine, ("saying", saying)), told)

    def test_is_saying_or_turn_refuses_no_value(self):
        wrong = (
            ("saying",), ("saying", A, 0), ["saying", A], ("Saying", A), (A, "saying"), ("turn", A),
            ("saying", list(A)),
            ("saying", ()), ("saying", None), ("saying", SEEN), ("turn", None), ("turn", ("a",)), {"saying": A}, A,
            ("", A), (None, A), (True, A), (["saying"], A), ("saying", CLOSES), (CLOSES, A),
            "saying", ("turn", ("a", 0)),
            ("saying", A + (("not", True),)),
        )
        self.assertIs(is_saying_or_turn(CLOSES, ("saying", A)), True)
        for value in wrong + NO_MACHINES + (CLOSES,):
            self.assertIs(is_saying_or_turn(CLOSES, value), False)
        for value in (("turn", ("a", True)), ("turn", ("a", False)), ("turn", ["a", 0]), ("turn", ("a", 2)),
                      ("turn", ("aa", 0)), ("turn", ("c", 0)), ("turn", ("a", 0, 0)), ("turn", None),
                      ("Turn", ("a", 0)), (None, ("a", 0))):
            self.assertIs(is_saying_or_turn(EVEN, value), False)
        self.assertIs(is_saying_or_turn(EVEN, ("turn", ("ab" * 501, 1))), True)
        self.assertIs(is_saying_or_turn(Machine("ab", EVEN.table, (0, 1)), ("turn", ("a", 0))), False)


class BoxSayingTest(unittest.TestCase):

    def boxes(self):
        some = all_boxes("a", 2) + all_boxes("a", 3)[::2] + all_boxes("ab", 1) + all_boxes("ab", 2)[::2]
        return some + some_boxes("ab", 3, 12) + some_boxes("by", 4, 14) + some_boxes("a", 4, 6)

    def test_box_saying(self):
        for box in self.boxes():
            size = len(box)
            for many in range(size + 1):
                for some in itertools.combinations(range(size), many):
                    saying = box_saying(box, some)
                    self.assertIs(is_saying(saying), True)
                    self.assertLessEqual(len(truths_behind(box.letters, saying)), 1000)
                    self.assertIs(is_saying_of(box.machine(some), saying), True)
                    for word in slow_words(box.letters, 4):
                        self.assertIs(holds(saying, word), slow_led(box.table, box.letters, 0, word) in some)

    def test_returned_boxes(self):
        box = (LATCH & Box.window("ab", 1)).lean()
        self.assertEqual(len(box), 4)
        self.assertIs(is_saying_of(box.machine((1, 3)), box_saying(box, (1, 3))), True)
        for box in (Box.window("ab", 2), Box.caps("ab", 2), Box.caps("a", 4)):
            for some in ((), (0,), (0, 4)):
                with self.assertRaises(TooMany) as caught:
                    box_saying(box, some)
                self.assertEqual(caught.exception.limit, 4)
            for some in (None, (1, 0), (99,), [0]):
                with self.assertRaises(InvalidOperation):
                    box_saying(box, some)

    def test_wrong_places(self):
        wrong = (
            (2,), (-1,), (1, 0), (0, 0), [0], [], (True,), (False,), (0, True), ("0",), "0", 0, None, {0: 1}, (None,),
            ((0,),), (0, 10 ** 39), LATCH, (LATCH,), (0, 1, 2),
        )
        for value in wrong + NO_WORDS:
            if value in ((), (0,), (0, 1)) and all(type(place) is int for place in value):
                continue
            with self.assertRaises(InvalidOperation):
                box_saying(LATCH, value)


class SaysApartTest(unittest.TestCase):

    def test_says_apart(self):
        found = {True: 0, False: 0}
        words = slow_words("ab", 7)
        some = some_machines("ab", 2, 8) + some_machines("ab", 3, 8) + [STARTS, OTHERS, CLOSES, LATER, NONE]
        pairs = list(zip(some, some[3:] + some[:3])) + [(STARTS, OTHERS), (CLOSES, LATER), (LATER, CLOSES)]
        for one, other in pairs:
            firsts = [word for word in words if slow_has(one, word)]
            seconds = [word for word in words if slow_has(other, word)]
            for saying in SAYINGS[::2] + [A, (("letter", "b"),), SEEN]:
                made = saying_machine("ab", saying)
                told = (one - made).is_empty and (other & made).is_empty
                found[told] += 1
                self.assertIs(says_apart(one, other, saying), told)
                if told:
                    self.assertTrue(all(holds(saying, word) for word in firsts))
                    self.assertFalse(any(holds(saying, word) for word in seconds))
        self.assertGreater(min(found.values()), 50)

    def test_boxes_and_sayings(self):
        many = {True: 0, False: 0}
        for size, count in ((2, 30), (3, 60)):
            for machine in some_machines("ab", size, count):
                other = Machine("ab", machine.table, tuple(at for at in range(size) if at not in machine.ends))
                if len(slow_images(machine, other)) > 32:
                    continue
                box = first_box(machine, other, 3)
                many[box is None] += 1
                if box is not None:
                    saying = box_saying(box, places(machine, box))
                    self.assertIs(says_apart(machine, other, saying), True)
                    self.assertIs(says_apart(other, machine, denied(saying)), True)
                elif blur(machine, other) is not None:
                    for saying in SAYINGS[::5]:
                        self.assertIs(says_apart(machine, other, saying), False)
        self.assertGreater(min(many.values()), 3)

    def test_calm_machines(self):
        for one, other in zip(MACHINES, MACHINES[1:]):
            if one.letters == other.letters and common_word(one, other) is None:
                if len(one.least()) <= 4 and saying_or_turn(one)[0] == "saying":
                    self.assertIs(says_apart(one, other, saying_of(one)), True)

    def test_greater_machines(self):
        long = chained(of_words("ab", ("aabba", "bab")), repeated(of_words("ab", ("ab", "aaa"))))
        self.assertGreater(len(long), 8)
        ends = saying_of(CLOSES)
        self.assertIs(says_apart(long & CLOSES, long - CLOSES, ends), True)
        self.assertIs(says_apart(long, LATER, ends), False)
        self.assertIs(says_apart(chain(61), chain(60), window(59)), True)
        self.assertIs(says_apart(chain(61), chain(60), window(60)), False)
        self.assertIs(says_apart(chain(60), chain(61), window(59)), False)

    def test_errors(self):
        for value in NO_MACHINES:
            if not isinstance(value, Machine):
                for saying in (SEEN, None, window(60)):
                    for one, other in ((value, EVEN), (EVEN, value), (ALONE, value)):
                        with self.assertRaises(InvalidMachine):
                            says_apart(one, other, saying)
        for saying in ((), (("not", 0),), list(SEEN), SEEN + (("not", True),), CLOSES) + NO_WORDS:
            for one in (EVEN, ALONE):
                with self.assertRaises(InvalidOperation):
                    says_apart(one, ODD, saying)
        for one, other in ((EVEN, ALONE), (ALONE, EVEN), (EVEN, Machine("ac", ((1, 0), (0, 1)), (1,)))):
            for saying in (SEEN, window(60)):
                with self.assertRaises(InvalidOperation):
                    says_apart(one, other, saying)
        with self.assertRaises(TooMany) as caught:
            says_apart(EVEN, ODD, window(60))
        self.assertEqual(caught.exception.limit, 1000)
        self.assertIs(says_apart(ALONE, Machine("a", ((0,),)), denied(window(60)) + (("either", 59, 60),)), True)


class ErrorsTest(unittest.TestCase):

    def test_no_machine(self):
        for value in NO_MACHINES:
            if not isinstance(value, Machine):
                for call in (saying_of, saying_or_turn, lambda value: is_saying_of(value, A),
                             lambda value: is_saying_of(value, None), lambda value: is_saying_or_turn(value, None),
                             lambda value: is_saying_or_turn(value, ("saying", A))):
                    with self.assertRaises(InvalidMachine):
                        call(value)

    def test_no_box(self):
        for value in NO_BOXES + (EVEN,):
            for some in ((0,), None):
                with self.assertRaises(InvalidBox):
                    box_saying(value, some)

    def test_equal_calls(self):
        for machine in MACHINES[::20]:
            self.assertEqual(saying_or_turn(machine), saying_or_turn(machine))
        self.assertEqual(box_saying(LATCH, (1,)), box_saying(LATCH, (1,)))


if __name__ == "__main__":
    unittest.main()
