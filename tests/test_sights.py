"""What a box sees of machines, against slow searches by words."""

import itertools
import unittest

from neverturns.base.joined import of_words
from neverturns.base.machines import Machine
from neverturns.errors import InvalidBox, InvalidMachine, InvalidNumber, InvalidOperation
from neverturns.still.boxes import Box
from neverturns.still.sights import alike_pair, apart_paper, is_alike_pair, is_apart_paper, places, seen_by
from neverturns.still.sights import tells_apart, word_to
from neverturns.still.turns import is_calm
from tests.support import NO_BOXES, NO_MACHINES, NO_NUMBERS, NO_WORDS
from tests.support import all_boxes, all_machines, is_slowly_least, slow_has, slow_led, slow_words, some_boxes
from tests.support import some_machines

EVEN = Machine("ab", ((1, 0), (0, 1)), (0,))
ODD = Machine("ab", ((1, 0), (0, 1)), (1,))
STARTS = Machine("ab", ((1, 2), (1, 1), (2, 2)), (1,))
OTHERS = Machine("ab", ((1, 2), (1, 1), (2, 2)), (0, 2))
LATCH = Box("ab", ((1, 0), (1, 1)))
WIDE = Box("ab", ((1, 2), (1, 1), (2, 2)))
ALONE = Machine("a", ((0,),), (0,))
FOUR = Machine("ab", ((1, 0), (2, 1), (3, 2), (0, 3)), (3,))
MACHINES = some_machines("ab", 2, 10) + some_machines("ab", 3, 12) + some_machines("ab", 4, 10) + all_machines("ab", 1)
BOXES = all_boxes("ab", 2)[::3] + some_boxes("ab", 3, 8) + some_boxes("ab", 4, 8)
SINGLE = (all_machines("a", 2), all_boxes("a", 2) + some_boxes("a", 4, 8))
WORDS = {"ab": slow_words("ab", 8), "a": slow_words("a", 16)}
KNOWN = {}


def seen(machine, box):
    """A dict from the places to the first words that lead there, by all words in their order.

    The words are long enough for so many pairs of states and places as come here.
    """
    if (id(machine), id(box)) not in KNOWN:
        firsts = {}
        states = {"": (0, 0)}
        for word in WORDS[box.letters]:
            if word:
                state, place = states[word[:-1]]
                at = box.letters.index(word[-1])
                states[word] = (machine.table[state][at], box.table[place][at])
            state, place = states[word]
            if state in machine.ends and place not in firsts:
                firsts[place] = word
        KNOWN[id(machine), id(box)] = firsts
    return KNOWN[id(machine), id(box)]


def slow_pairs(machine, box):
    found = {(0, 0)}
    while True:
        new = found | {
            goal for state, place in found for goal in zip(machine.table[state], box.table[place])
        }
        if new == found:
            return found
        found = new


def slow_is_paper(one, other, box, value):
    """By the sentences of [6.1], for values of the right form."""
    for machine, pairs in zip((one, other), value):
        if (0, 0) not in pairs or list(pairs) != sorted(set(pairs)):
            return False
        for state, place in pairs:
            for at in range(len(box.letters)):
                if (machine.table[state][at], box.table[place][at]) not in pairs:
                    return False
    return not any(
        first[1] == second[1] and first[0] in one.ends and second[0] in other.ends
        for first in value[0] for second in value[1]
    )


def pairs_of_machines(machines):
    return list(zip(machines, machines[7:] + machines[:7])) + list(zip(machines, machines[1:]))


class SeenTest(unittest.TestCase):

    def groups(self):
        yield from itertools.product(MACHINES, BOXES)
        yield from itertools.product(*SINGLE)

    def test_places(self):
        for machine, box in self.groups():
            self.assertEqual(places(machine, box), tuple(sorted(seen(machine, box))))

    def test_word_to(self):
        for machine, box in self.groups():
            for place in range(len(box)):
                self.assertEqual(word_to(machine, box, place), seen(machine, box).get(place))

    def test_seen_by(self):
        for machine, box in self.groups():
            made = seen_by(machine, box)
            self.assertIs(type(made), Machine)
            self.assertTrue(is_slowly_least(made))
            self.assertIs(is_calm(made), True)
            for word in slow_words(box.letters, 5):
                self.assertIs(slow_has(made, word), slow_led(box.table, box.letters, 0, word) in seen(machine, box))

    def test_wrong_places(self):
        for place in NO_NUMBERS + (-1, 2, 10 ** 39, True, False):
            with self.assertRaises(InvalidNumber) as caught:
                word_to(EVEN, LATCH, place)
            self.assertIs(caught.exception.value, place)


class ApartTest(unittest.TestCase):

    def groups(self):
        for one, other in pairs_of_machines(MACHINES):
            for box in BOXES:
                yield one, other, box
        for one, other in pairs_of_machines(SINGLE[0]):
            for box in SINGLE[1]:
                yield one, other, box

    def test_tells_apart(self):
        found = set()
        for one, other, box in self.groups():
            told = not set(seen(one, box)) & set(seen(other, box))
            found.add((told, one.is_empty or other.is_empty))
            self.assertIs(tells_apart(one, other, box), told)
            self.assertIs((seen_by(one, box) & seen_by(other, box)).is_empty, told)
        self.assertEqual(len(found), 3)

    def test_alike_pair(self):
        for one, other, box in self.groups():
            pair = alike_pair(one, other, box)
            if tells_apart(one, other, box):
                self.assertIs(pair, None)
            else:
                first, second = pair
                self.assertIs(type(pair), tuple)
                self.assertTrue(slow_has(one, first) and slow_has(other, second))
                self.assertEqual(box(first), box(second))
                self.assertIs(is_alike_pair(one, other, box, pair), True)

    def test_is_alike_pair(self):
        words = slow_words("ab", 2)
        for one, other in pairs_of_machines(MACHINES)[::3]:
            for box in BOXES[::2]:
                for first, second in itertools.product(words, repeat=2):
                    told = slow_has(one, first) and slow_has(other, second) and box(first) == box(second)
                    self.assertIs(is_alike_pair(one, other, box, (first, second)), told)

    def test_long_pairs(self):
        self.assertIs(is_alike_pair(EVEN, ODD, LATCH, ("ab" * 5000, "b" * 9999 + "a")), True)
        self.assertIs(is_alike_pair(EVEN, ODD, LATCH, ("ab" * 5001, "b" * 9999 + "aa")), False)

    def test_is_alike_pair_refuses_no_value(self):
        wrong = (
            ("aa",), ("aa", "a", "a"), ["aa", "a"], ("aa", None), (None, "a"), ("aa", True), ("aa", ("a",)),
            ("aac", "a"),
            ("aa", "ac"), ("AA", "a"), {"aa": "a"}, ("a", "aa"), ("aa", "aa"), ("", "a"), (["aa"], "a"), (EVEN, ODD),
        )
        for value in wrong + NO_WORDS:
            self.assertIs(is_alike_pair(EVEN, ODD, LATCH, value), False)

    def test_two_boxes(self):
        for one, other in pairs_of_machines(MACHINES)[::4]:
            for box, second in zip(BOXES, BOXES[3:] + BOXES[:3]):
                if tells_apart(one, other, box) or tells_apart(one, other, second):
                    self.assertIs(tells_apart(one, other, box & second), True)


class PaperTest(unittest.TestCase):

    def test_apart_paper(self):
        for one, other, box in ApartTest().groups():
            paper = apart_paper(one, other, box)
            if not tells_apart(one, other, box):
                self.assertIs(paper, None)
            else:
                self.assertTrue(slow_is_paper(one, other, box, paper))
                self.assertIs(is_apart_paper(one, other, box, paper), True)
                self.assertLessEqual(max(map(len, paper)), 16)

    def test_all_papers(self):
        found = {True: 0, False: 0}
        pairs = [(0, 0), (0, 1), (1, 0), (1, 1)]
        parts = [part for size in range(5) for part in itertools.combinations(pairs, size)]
        for one, other in pairs_of_machines(all_machines("ab", 2)[::3])[::2]:
            for box in (LATCH, Box("ab", ((0, 1), (0, 1)))):
                for value in itertools.product([part for part in parts if part[:1] == ((0, 0),)], repeat=2):
                    told = slow_is_paper(one, other, box, value)
                    found[told] += 1
                    self.assertIs(is_apart_paper(one, other, box, value), told)
        self.assertGreater(min(found.values()), 99)

    def test_greater_papers_than_needed(self):
        box = Box("ab", ((0, 0), (1, 1)))
        one = Machine("ab", ((0, 0), (0, 0)), (1,))
        other = Machine("ab", ((0, 0), (1, 0)), (0,))
        self.assertIs(is_apart_paper(one, other, box, (((0, 0),), ((0, 0),))), True)
        self.assertIs(is_apart_paper(one, other, box, (((0, 0), (0, 1)), ((0, 0), (1, 0)))), True)
        self.assertIs(is_apart_paper(one, other, box, (((0, 0), (0, 1), (1, 1)), ((0, 0), (1, 0)))), True)
        self.assertIs(is_apart_paper(one, other, box, (((0, 0), (1, 0)), ((0, 0), (1, 0)))), False)
        self.assertIs(is_apart_paper(one, other, box, (((0, 0), (1, 1)), ((0, 0), (1, 0)))), False)

    def test_order(self):
        table = ((0, 0), (1, 1), (2, 2))
        self.assertIs(is_apart_paper(STARTS, OTHERS, WIDE, (table, table)), True)
        for bad in (table[::-1], table + table[2:], table[:1] + table, ((1, 1), (0, 0), (2, 2)), list(table), ()):
            self.assertIs(is_apart_paper(STARTS, OTHERS, WIDE, (bad, table)), False)
            self.assertIs(is_apart_paper(STARTS, OTHERS, WIDE, (table, bad)), False)

    def test_is_apart_paper_refuses_no_value(self):
        table = ((0, 0), (1, 1), (2, 2))
        parts = (
            ((0, 0), (1, 1), (2, 2), (3, 0)), ((0, 0), (1, 1), (2, 2), (2, 3)), ((-1, 0), (0, 0), (1, 1), (2, 2)),
            ((-1, 2), (0, 0), (1, 1), (2, 2)), ((0, 0), (1, 1), (2, -1), (2, 2)),
            ((False, 0), (1, 1), (2, 2)), ((0, 0), (True, 1), (2, 2)), ((0, 0), (1, True), (2, 2)), ((0, 0), 1, (2, 2)),
            ((0, 0), (1, 1), (2, 2), (2, 2, 0)), ((0, 0), (1, 1), (2,)), ([0, 0], (1, 1), (2, 2)),
            ((0, 0), (1, 1), "22"),
            ((0, 0), (1, 1), None), ((0, 0), (1, "1"), (2, 2)), ((0, 0), (1, 1), (2, [2])), {(0, 0): 1, (1, 1): 1},
            "abc", 0, None, True, EVEN, (EVEN, ODD, EVEN), ((0, 0), (1, 1), (2, 10 ** 39)),
        )
        for part in parts + NO_BOXES:
            self.assertIs(is_apart_paper(STARTS, OTHERS, WIDE, (part, table)), False)
            self.assertIs(is_apart_paper(STARTS, OTHERS, WIDE, (table, part)), False)
            self.assertIs(is_apart_paper(STARTS, OTHERS, WIDE, part), False)
        for value in ((table,), (table, table, table), [table, table], table + table):
            self.assertIs(is_apart_paper(STARTS, OTHERS, WIDE, value), False)


class ErrorsTest(unittest.TestCase):

    def calls(self):
        """Each call, with how many machines it takes, and the other arguments behind the box."""
        return (
            (1, places, ()), (1, word_to, (0,)), (1, word_to, (99,)), (1, seen_by, ()), (2, tells_apart, ()),
            (2, alike_pair, ()), (2, is_alike_pair, (("", "a"),)), (2, is_alike_pair, (None,)), (2, apart_paper, ()),
            (2, is_apart_paper, (None,)), (2, is_apart_paper, ((((0, 0),), ((0, 0),)),)),
        )

    def test_no_machine(self):
        for value in NO_MACHINES:
            if isinstance(value, Machine):
                continue
            for many, call, rest in self.calls():
                for box in (LATCH, None, Box("c", ((0,),))):
                    if many == 1:
                        with self.assertRaises(InvalidMachine):
                            call(value, box, *rest)
                    else:
                        for one, other in ((value, EVEN), (EVEN, value), (ALONE, value)):
                            with self.assertRaises(InvalidMachine):
                                call(one, other, box, *rest)

    def test_no_box(self):
        for value in NO_BOXES + (EVEN,):
            for many, call, rest in self.calls():
                with self.assertRaises(InvalidBox):
                    call(*(EVEN, ALONE)[:many], value, *rest)

    def test_other_letters(self):
        box = Box("a", ((0,),))
        for many, call, rest in self.calls():
            groups = ((EVEN, box), (ALONE, LATCH)) if many == 1 else (
                (EVEN, ALONE, LATCH), (ALONE, EVEN, LATCH), (EVEN, EVEN, box), (ALONE, ALONE, LATCH),
                (EVEN, ALONE, box),
            )
            for group in groups:
                if rest == (99,):
                    with self.assertRaises(InvalidNumber):
                        call(*group, *rest)
                else:
                    with self.assertRaises(InvalidOperation):
                        call(*group, *rest)

    def test_greater_machines_and_boxes(self):
        machine = of_words("ab", ("ababab", "b")) | of_words("ab", ("aaab",))
        second = ODD & Machine("ab", ((1, 0), (2, 1), (0, 2)), (1,))
        box = Box.window("ab", 2) & Box.caps("ab", 1)
        self.assertGreater(min(len(machine), len(second), len(box)), 4)
        told = {box(word): word for word in sorted(("ababab", "b", "aaab"), key=len, reverse=True)}
        self.assertEqual(places(machine, box), tuple(sorted(told)))
        for place in range(len(box)):
            self.assertEqual(word_to(machine, box, place), told.get(place))
        made = seen_by(machine, box)
        for word in slow_words("ab", 6):
            self.assertIs(word in made, box(word) in told)
        self.assertIs(tells_apart(machine, second, box), False)
        self.assertIs(is_alike_pair(machine, second, box, alike_pair(machine, second, box)), True)
        self.assertIs(apart_paper(machine, second, box), None)
        single = of_words("ab", ("a",))
        paper = apart_paper(machine, single, box)
        self.assertEqual([set(part) for part in paper], [slow_pairs(machine, box), slow_pairs(single, box)])
        self.assertIs(is_apart_paper(machine, single, box, paper), True)

    def test_nothing_is_changed(self):
        answers = []
        for _ in range(2):
            answers.append((
                places(FOUR, LATCH), word_to(FOUR, LATCH, 1), tells_apart(FOUR, EVEN, LATCH),
                alike_pair(FOUR, ODD, LATCH),
                seen_by(FOUR, LATCH).table, apart_paper(STARTS, OTHERS, WIDE),
            ))
        self.assertEqual(answers[0], answers[1])
        self.assertEqual((FOUR.table, FOUR.ends), (((1, 0), (2, 1), (3, 2), (0, 3)), (3,)))


if __name__ == "__main__":
    unittest.main()
