"""Rows of resets, against slow leading letter by letter."""

import itertools
import random
import unittest

from neverturns.base.machines import Machine
from neverturns.errors import InvalidBox, InvalidNumber, InvalidOperation, InvalidWord, TooMany
from neverturns.row.finding import row_paper
from neverturns.row.resets import is_row, is_row_paper, row_box, rows_beside, stand_after, stands
from neverturns.still.boxes import Box
from tests.support import NO_BOXES, NO_LETTERS, NO_NUMBERS, NO_STRINGS, NO_WORDS
from tests.support import all_boxes, slow_action, slow_first_turn, slow_words, some_boxes

LATCH = Box("ab", ((1, 0), (1, 1)))
LEVEL = (2, 0, ({(): 1}, {}))
ROW = (LEVEL,)
DEEP = ((2, 0, ({(): 1}, {})), (2, 0, ({}, {(1,): 1})))


def some_rows(letters, levels, many, most=4):
    """So many rows with so many levels, the same ones in each run."""
    dice = random.Random(repr((letters, levels, most)))
    found = []
    for _ in range(many):
        row = []
        for _ in range(levels):
            values = dice.randint(2, most)
            heads = list(itertools.product(*[range(level[0]) for level in row]))
            rules = []
            for _ in letters:
                some = [head for head in heads if dice.randrange(3)]
                dice.shuffle(some)
                rules.append({head: dice.randrange(values) for head in some})
            row.append((values, dice.randrange(values), tuple(rules)))
        found.append(tuple(row))
    return found


# Six levels with two values each, where a letter sets a level if all levels ahead have the value 1.
TOWER = tuple(
    (2, 0, ({(1,) * at: 1}, {(1,) * at: 1} if at % 2 else {})) for at in range(6)
)
ROWS = {
    "a": some_rows("a", 1, 6) + some_rows("a", 2, 8) + some_rows("a", 3, 8, 3) + [()],
    "ab": some_rows("ab", 1, 8) + some_rows("ab", 2, 12) + some_rows("ab", 3, 10, 3) + some_rows("ab", 4, 6, 3)
    + [(), ROW, DEEP, TOWER],
}


def slow_stand(letters, row, word):
    """The stand to which a word leads, straight from [15.1]."""
    stand = [level[1] for level in row]
    for letter in word:
        new = list(stand)
        for at, (_, _, rules) in enumerate(row):
            entries = rules[letters.index(letter)]
            if tuple(stand[:at]) in entries:
                new[at] = entries[tuple(stand[:at])]
        stand = new
    return tuple(stand)


def slow_stands(letters, row):
    """The reached stands, by all words in their order, until a length brings nothing new."""
    found = {}
    words = [""]
    while words:
        new = []
        for word in words:
            stand = slow_stand(letters, row, word)
            if stand not in found:
                found[stand] = word
                new.append(word)
        words = [word + letter for word in new for letter in letters]
    return tuple(found)


def counters(first, second):
    """A row that counts both letters up to greatest numbers, with a level for each step of them."""
    row = [(2, 0, ({(1,) * at: 1}, {})) for at in range(first)]
    heads = [(1,) * many + (0,) * (first - many) for many in range(first + 1)]
    for at in range(second):
        row.append((2, 0, ({}, {head + (1,) * at: 1 for head in heads})))
    return tuple(row)


def window(size):
    """A row with a level for each of the last letters, the last one first; 0 stands for none."""
    row = []
    for at in range(size):
        heads = list(itertools.product(range(3), repeat=at))
        row.append((3, 0, tuple({head: head[-1] if at else number for head in heads} for number in (1, 2))))
    return tuple(row)


class IsRowTest(unittest.TestCase):

    def test_rows(self):
        for letters, rows in ROWS.items():
            for row in rows:
                self.assertIs(is_row(letters, row), True)
                if row:
                    self.assertIs(is_row("a" if letters == "ab" else "ab", row), False)
        self.assertIs(is_row("yz", ROW), True)
        self.assertIs(is_row("q", ()), True)

    def test_the_edges(self):
        for values in range(-1, 15):
            for first in range(-1, 15):
                told = 2 <= values <= 12 and 0 <= first < values
                self.assertIs(is_row("a", ((values, first, ({},)),)), told)
        self.assertIs(is_row("ab", ROW + ((12, 11, ({(1,): 11}, {(0,): 0})),)), True)
        for bad in ({(2,): 0}, {(-1,): 0}, {(0,): 12}, {(0,): -1}, {(): 0}, {(0, 0): 0}, {0: 0}, {"0": 0}, {(True,): 0},
                    {(False,): 0}, {(0,): True}, {(0,): False}, {(0,): None}, {(None,): 0}, {((0,),): 0}, {(0,): (0,)},
                    {(0,): "0"}, {None: 0}, {(0,): 0, (1,): 12}, {(0,): 0, ("1",): 0}, {(10 ** 39,): 0},
                    {(0,): 10 ** 39}, {(0,): [0]}, [], (), None, [((0,), 0)]):
            for rules in ((bad, {}), ({}, bad)):
                self.assertIs(is_row("ab", ROW + ((12, 0, rules),)), False)

    def test_many_levels(self):
        self.assertIs(is_row("a", tuple((2, 0, ({(0,) * at: 1},)) for at in range(60))), True)
        self.assertIs(is_row("a", tuple((2, 0, ({(0,) * at: 1},)) for at in range(60)) + ((2, 2, ({},)),)), False)

    def test_is_row_refuses_no_value(self):
        wrong = (
            [LEVEL], (list(LEVEL),), (LEVEL[:2],), (LEVEL + (0,),), (LEVEL, None), ((2, 0, [{}, {}]),),
            ((2, 0, ({},)),),
            ((2, 0, ({}, {}, {})),), ((2, 0, ({}, None)),), ((True, 0, ({}, {})),), ((2, True, ({}, {})),),
            ((2, False, ({}, {})),), (("2", 0, ({}, {})),), ((2, None, ({}, {})),), ((2, 0, {}),), ((2, 0, None),),
            (10 ** 39, 0, ({}, {})), ((10 ** 39, 0, ({}, {})),), LEVEL, {0: LEVEL}, (DEEP[1],), (DEEP[1], DEEP[0]),
            (LEVEL, LEVEL), LATCH, (LATCH,), ((2, 0, LATCH),), ((2, 0, ({}, LATCH)),), "", "ab",
        )
        for value in wrong + tuple(value for value in NO_STRINGS if value != ()):
            self.assertIs(is_row("ab", value), False)
        self.assertIs(is_row("ab", ()), True)


class StandsTest(unittest.TestCase):

    def test_stand_after(self):
        for letters, rows in ROWS.items():
            for row in rows:
                for word in slow_words(letters, 5 if len(letters) == 2 else 8):
                    self.assertEqual(stand_after(letters, row, word), slow_stand(letters, row, word))

    def test_times(self):
        for letters, rows in ROWS.items():
            for row in rows:
                for word in slow_words(letters, 3):
                    for times in range(9):
                        told = slow_stand(letters, row, word * times)
                        self.assertEqual(stand_after(letters, row, word, times=times), told)
                    told = slow_stand(letters, row, word * (len(row) + 1))
                    self.assertEqual(slow_stand(letters, row, word * (len(row) + 2)), told)
                    self.assertEqual(stand_after(letters, row, word, times=10 ** 11), told)
        self.assertEqual(stand_after("ab", TOWER, "a" * 50000 + "b" * 50000, times=10 ** 11), (1,) * 6)
        self.assertEqual([stand_after("a", (), "aaa", times=7), stand_after("ab", TOWER, "")], [(), (0,) * 6])

    def test_all_levels_change_at_once(self):
        self.assertEqual(stand_after("ab", DEEP, "ab"), (1, 1))
        self.assertEqual(stand_after("ab", ((2, 0, ({(): 1}, {})), (2, 0, ({(1,): 1}, {}))), "a"), (1, 0))

    def test_stands(self):
        for letters, rows in ROWS.items():
            for row in rows:
                found = stands(letters, row)
                self.assertIs(type(found), tuple)
                self.assertEqual(found, slow_stands(letters, row))
        self.assertEqual(len(stands("ab", counters(3, 4))), 20)

    def test_row_box(self):
        for letters, rows in ROWS.items():
            for row in rows:
                box = row_box(letters, row)
                found = slow_stands(letters, row)
                self.assertIs(type(box), Box)
                self.assertEqual((box.letters, len(box)), (letters, len(found)))
                self.assertIs(slow_first_turn(box.table, letters) if len(found) < 9 else None, None)
                self.assertEqual(box.lean(), box)
                for word in slow_words(letters, 4):
                    self.assertEqual(found[box(word)], slow_stand(letters, row, word))
                    self.assertLessEqual(box.lag(word), len(row))

    def test_just_a_thousand_stands(self):
        for row, many in ((counters(24, 39), 1000), (counters(8, 110), 999), (counters(0, 99), 100),
                          (window(6), 127)):
            self.assertEqual(len(stands("ab", row)), many)
            self.assertEqual(len(row_box("ab", row)), many)
        box = row_box("ab", counters(24, 39))
        for first, second in ((0, 0), (3, 7), (24, 39), (30, 5), (99, 99)):
            told = stands("ab", counters(24, 39))[box("a" * first + "b" * second)]
            self.assertEqual(told, (1,) * min(first, 24) + (0,) * (24 - min(first, 24))
                             + (1,) * min(second, 39) + (0,) * (39 - min(second, 39)))

    def test_more_than_a_thousand_stands(self):
        for row in (counters(24, 40), counters(3, 250), rows_beside("ab", window(4), counters(9, 9))):
            self.assertIs(is_row("ab", row), True)
            for call in (stands, row_box):
                with self.assertRaises(TooMany) as caught:
                    call("ab", row)
                self.assertEqual(caught.exception.limit, 1000)
        self.assertEqual(stand_after("ab", counters(24, 40), "ab", times=30), (1,) * 54 + (0,) * 10)

    def test_wrong_words(self):
        for word in NO_WORDS:
            for times in (1, -1, None):
                with self.assertRaises(InvalidWord):
                    stand_after("ab", ROW, word, times=times)
        for times in NO_NUMBERS + (-1, 10 ** 11 + 1, 10 ** 39, True, False):
            for word in ("a", "c"):
                with self.assertRaises(InvalidNumber) as caught:
                    stand_after("ab", ROW, word, times=times)
                self.assertIs(caught.exception.value, times)
        for word in ("c", "abc", "z" * 400):
            for times in (0, 1):
                with self.assertRaises(InvalidOperation):
                    stand_after("ab", ROW, word, times=times)
        with self.assertRaises(TypeError):
            stand_after("ab", ROW, "a", 1)



class BesideTest(unittest.TestCase):

    def test_rows_beside(self):
        for letters, rows in ROWS.items():
            for one, other in zip(rows, rows[3:] + rows[:3]):
                both = rows_beside(letters, one, other)
                self.assertIs(is_row(letters, both), True)
                self.assertEqual([level[:2] for level in both], [level[:2] for level in one + other])
                for word in slow_words(letters, 4):
                    told = slow_stand(letters, one, word) + slow_stand(letters, other, word)
                    self.assertEqual(slow_stand(letters, both, word), told)
                self.assertEqual(both[:len(one)], one)

    def test_all_heads_have_entries(self):
        # Whatever the values of the levels of the one are, also those that are not reached.
        both = rows_beside("ab", ((3, 2, ({}, {})),), DEEP)
        self.assertEqual(both[1:], (
            (2, 0, ({(0,): 1, (1,): 1, (2,): 1}, {})), (2, 0, ({}, {(0, 1): 1, (1, 1): 1, (2, 1): 1})),
        ))

    def test_boxes_of_rows_beside(self):
        rows = ROWS["ab"]
        words = slow_words("ab", 4)
        for one, other in zip(rows[::3], rows[1::3]):
            if len(slow_stands("ab", one)) * len(slow_stands("ab", other)) <= 1000:
                box, first, second = [row_box("ab", row) for row in (rows_beside("ab", one, other), one, other)]
                for word, again in itertools.product(words, repeat=2):
                    same = first(word) == first(again) and second(word) == second(again)
                    self.assertIs(box(word) == box(again), same)

    def test_ascending_keys(self):
        for letters, rows in ROWS.items():
            for one, other in zip(rows, rows[5:] + rows[:5]):
                for level in rows_beside(letters, one, other):
                    for rule in level[2]:
                        self.assertEqual(list(rule), sorted(rule))
        mixed = ((2, 0, ({(): 1},)), (2, 0, ({(1,): 0, (0,): 1},)))
        for made in (rows_beside("a", mixed, ()), rows_beside("a", (), mixed)):
            self.assertEqual([made, list(made[1][2][0])], [mixed, [(0,), (1,)]])

    def test_a_thousand_tuples(self):
        one = tuple((values, 0, ({},)) for values in (10, 10, 10))
        other = ((2, 0, ({(): 1},)),)
        self.assertEqual(len(rows_beside("a", one, other)[3][2][0]), 1000)
        self.assertEqual(len(rows_beside("a", other, one + one)), 7)
        for sizes in ((10, 10, 11), (12, 12, 7), (12,) * 6, (2,) * 10, (2,) * 60):
            with self.assertRaises(TooMany) as caught:
                rows_beside("a", tuple((values, 0, ({},)) for values in sizes), other)
            self.assertEqual(caught.exception.limit, 1000)
            self.assertEqual(len(rows_beside("a", other, tuple((values, 0, ({},)) for values in sizes))),
            len(sizes) + 1)
        with self.assertRaises(TooMany):
            rows_beside("a", one + ((2, 0, ({},)),), ())
        self.assertEqual(rows_beside("a", (), ()), ())

    def test_no_access(self):
        one, other = ({(): 1}, {}), ({}, {(): 0})
        made = rows_beside("ab", ((2, 0, one),), ((2, 0, other),))
        told = ((2, 0, ({(): 1}, {})), (2, 0, ({}, {(0,): 0, (1,): 0})))
        self.assertEqual(made, told)
        for rule in one + other:
            rule.clear()
            rule[()] = 1
        self.assertEqual(made, told)
        made[0][2][0][()] = 0
        self.assertEqual(one, ({(): 1}, {(): 1}))
        self.assertEqual(rows_beside("ab", ROW, ROW), rows_beside("ab", ROW, ROW))


class PaperTest(unittest.TestCase):

    def slow_is_paper(self, box, row, places):
        """By the sentences of [15.2], for values of the right form."""
        found = slow_stands(box.letters, row)
        if len(places) != len(found) or places[0] != 0:
            return False
        for at, stand in enumerate(found):
            for column, letter in enumerate(box.letters):
                word = slow_stands_words(box.letters, row)[stand] + letter
                goal = found.index(slow_stand(box.letters, row, word))
                if box.table[places[at]][column] != places[goal]:
                    return False
        return True

    def test_small_papers(self):
        found = {True: 0, False: 0}
        rows = [row for row in ROWS["ab"] if len(slow_stands("ab", row)) <= 4]
        for row in rows:
            for box in all_boxes("ab", 1) + all_boxes("ab", 2) + some_boxes("ab", 3, 4):
                for places in itertools.product(range(len(box)), repeat=len(slow_stands("ab", row))):
                    told = self.slow_is_paper(box, row, places)
                    found[told] += 1
                    self.assertIs(is_row_paper(box, (row, places)), told)
        self.assertGreater(min(found.values()), 50)

    def test_papers_of_row_boxes(self):
        for letters, rows in ROWS.items():
            for row in rows:
                box = row_box(letters, row)
                self.assertIs(is_row_paper(box, (row, tuple(range(len(box))))), True)
                both = rows_beside(letters, row, row)
                self.assertIs(is_row_paper(box, (both, tuple(range(len(box))))), True)
                if len(box) > 1:
                    self.assertIs(is_row_paper(box, (row, tuple(range(1, len(box))) + (0,))), False)
                    self.assertIs(is_row_paper(box, (row, tuple(range(len(box) - 1)))), False)
                    self.assertIs(is_row_paper(box, (row, tuple(range(len(box))) + (0,))), False)

    def test_papers_of_any_size(self):
        row = rows_beside("ab", window(4), counters(9, 9))
        box = Box.window("ab", 4) & Box.caps("ab", 9)
        stand = tuple([level[1] for level in row])
        found, firsts = {stand: 0}, [(stand, 0)]
        for stand, place in firsts:
            for column in (0, 1):
                new = tuple([level[2][column].get(stand[:at], stand[at]) for at, level in enumerate(row)])
                if new not in found:
                    found[new] = box.table[place][column]
                    firsts.append((new, found[new]))
        places = tuple(place for _, place in firsts)
        self.assertGreater(len(places), 1000)
        self.assertIs(is_row_paper(box, (row, places)), True)
        for wrong in (places[:-1], places + (0,), places[:-1] + (0,), (1,) + places[1:]):
            self.assertIs(is_row_paper(box, (row, wrong)), False)
        self.assertIs(is_row_paper(LATCH, (counters(24, 40), (0,))), False)
        self.assertIs(is_row_paper(LATCH, (counters(40, 40), (0,) * 50)), False)

    def test_found_papers(self):
        for box in all_boxes("ab", 3)[::9]:
            row, places = row_paper(box)
            self.assertTrue(self.slow_is_paper(box, row, places))

    def test_is_row_paper_refuses_no_value(self):
        wrong = (
            (ROW,), (ROW, (0, 1), 0), [ROW, (0, 1)], (ROW, [0, 1]), (ROW, (False, 1)), (ROW, (0, True)), (ROW, (0, 2)),
            (ROW, (0, -1)), (ROW, (0, None)), (ROW, (0, "1")), (ROW, ()), ((), ()), (ROW, (1, 0)), (ROW, (0, 10 ** 39)),
            ([LEVEL], (0, 1)), (None, (0, 1)), (ROW, None), (((2, True, ({(): 1}, {})),), (1, 0)), ("", (0,)),
            (((2, 0, ({(): True}, {})),), (0, 1)), (((2, 0, ({(): 1},)),), (0, 1)), ((), (0,)), ((), (0, 1)),
            (ROW, LATCH), (LATCH, (0, 1)), {0: ROW, 1: (0, 1)}, ((LEVEL, LEVEL), (0, 1)), (ROW, {0: 0, 1: 1}),
            (ROW, "01"),
        )
        self.assertIs(is_row_paper(LATCH, (ROW, (0, 1))), True)
        for value in wrong + NO_WORDS + (LATCH, ROW):
            self.assertIs(is_row_paper(LATCH, value), False)
        self.assertIs(is_row_paper(Box("ab", ((0, 0),)), ((), (0,))), True)
        self.assertIs(is_row_paper(Box("yz", ((1, 0), (1, 1))), (ROW, (0, 1))), True)
        self.assertIs(is_row_paper(Box("y", ((1,), (1,))), (ROW, (0, 1))), False)


def slow_stands_words(letters, row):
    """A dict from the reached stands to words that lead to them."""
    found = {}
    for word in slow_words(letters, 4):
        found.setdefault(slow_stand(letters, row, word), word)
    return found


class ErrorsTest(unittest.TestCase):

    def calls(self):
        """Calls that take a set of letters and a row."""
        return (
            lambda letters, row: stand_after(letters, row, "a"),
            lambda letters, row: stand_after(letters, row, None, times=-1), stands, row_box,
            lambda letters, row: rows_beside(letters, row, ROW), lambda letters, row: rows_beside(letters, row, None),
        )

    def test_no_letters(self):
        for letters in NO_LETTERS:
            for call in self.calls() + (is_row,):
                for row in (ROW, None):
                    with self.assertRaises(InvalidOperation):
                        call(letters, row)

    def test_no_row(self):
        wrong = (None, [LEVEL], (LEVEL, LEVEL), ((2, 0, ({},)),), ((2, 2, ({}, {})),), ((2, 0, ({(): True}, {})),),
        LATCH)
        for value in wrong + tuple(value for value in NO_STRINGS if value != ()):
            for call in self.calls():
                with self.assertRaises(InvalidOperation):
                    call("ab", value)
            with self.assertRaises(InvalidOperation):
                rows_beside("ab", ROW, value)
            with self.assertRaises(InvalidOperation):
                rows_beside("ab", counters(12, 0), value)

    def test_no_box(self):
        for value in NO_BOXES + (Machine("ab", ((1, 0), (1, 1))),):
            for paper in ((ROW, (0, 1)), None):
                with self.assertRaises(InvalidBox):
                    is_row_paper(value, paper)

    def test_the_first_error_that_applies(self):
        with self.assertRaises(InvalidWord):
            stand_after("ab", ROW, None, times=-1)
        with self.assertRaises(InvalidNumber):
            stand_after("ab", ROW, "c", times=-1)
        with self.assertRaises(InvalidOperation):
            stand_after("ab", ROW, "c", times=0)
        with self.assertRaises(InvalidOperation):
            rows_beside("a", counters(12, 0), ROW)

    def test_nothing_is_changed(self):
        row = ((2, 0, ({(): 1}, {})), (2, 0, ({(1,): 1, (0,): 0}, {})))
        answers = [
            (stands("ab", row), stand_after("ab", row, "aba"), row_box("ab", row).table, rows_beside("ab", row, row))
            for _ in range(2)
        ]
        self.assertEqual(answers[0], answers[1])
        self.assertEqual([row, list(row[1][2][0])], [((2, 0, ({(): 1}, {})), (2, 0, ({(1,): 1, (0,): 0}, {}))),
                                                     [(1,), (0,)]])
        self.assertEqual(slow_action(LATCH.table, "ab", "a"), (1, 1))


if __name__ == "__main__":
    unittest.main()
