"""Rows found, against slow checks by all actions of words."""

import unittest

from neverturns.base.joined import of_words, repeated
from neverturns.base.machines import Machine
from neverturns.errors import InvalidBox, InvalidMachine, InvalidOperation, TooMany
from neverturns.row.finding import calm_paper, height, image_sets, is_calm_paper, row_paper, tiles
from neverturns.row.resets import is_row, is_row_paper, row_box, rows_beside, stands
from neverturns.still.boxes import Box, made_box
from neverturns.still.turns import is_turn
from tests.support import NO_BOXES, NO_MACHINES, NO_WORDS
from tests.support import all_boxes, all_machines, all_tables, chain, slow_actions, slow_first_turn, slow_is_turn
from tests.support import some_boxes, some_machines

EVEN = Machine("ab", ((1, 0), (0, 1)), (0,))
STARTS = Machine("ab", ((1, 2), (1, 1), (2, 2)), (1,))
CLOSES = Machine("ab", ((1, 0), (1, 0)), (1,))
LATCH = Box("ab", ((1, 0), (1, 1)))
ROW = ((2, 0, ({(): 1}, {})),)


def boxes_of_five():
    """Boxes with five places, which only functions return."""
    found = []
    small = all_boxes("ab", 2) + some_boxes("ab", 3, 40) + some_boxes("ab", 4, 30)
    for step in (1, 7, 13, 20):
        for one, other in zip(small, small[step:] + small[:step]):
            box = (one & other).lean()
            if len(box) == 5 and box not in found:
                found.append(box)
    # Words lead image sets of these to others of the same size, from which no word leads back.
    for table in (
        ((4, 0), (2, 1), (2, 4), (3, 0), (2, 1)), ((0, 0), (3, 1), (4, 4), (3, 1), (0, 3)),
        ((3, 0), (2, 0), (2, 1), (1, 0), (1, 3)), ((2, 1), (0, 1), (4, 3), (4, 1), (4, 2)),
        ((1, 4), (1, 3), (3, 2), (1, 2), (4, 2)), ((2, 0), (4, 2), (2, 0), (3, 3), (0, 1)),
        ((1, 0), (1, 2), (1, 0), (3, 1), (0, 0)), ((0, 3), (1, 1), (2, 4), (4, 3), (1, 4)),
    ):
        found.append(made_box("ab", table))
    return found


FIVE = boxes_of_five()
SMALL = all_boxes("a", 2) + all_boxes("a", 3) + all_boxes("ab", 1) + all_boxes("ab", 2)
BOXES = SMALL + some_boxes("a", 4, 20) + some_boxes("ab", 3, 40) + some_boxes("by", 4, 60) + FIVE + [Box.caps("a", 4)]
GREAT = (Box.window("ab", 2), Box.caps("ab", 2), Box.caps("a", 5), LATCH & Box.window("ab", 2))


def slow_led(action, places):
    return tuple(sorted({action[place] for place in places}))


def slow_sets(box, acts):
    """All image sets, straight from [16.1]."""
    found = {slow_led(action, range(len(box))) for action in acts} | {(place,) for place in range(len(box))}
    return sorted(found)


def slow_below(acts, small, big):
    return any(set(small) <= {action[place] for place in big} for action in acts)


def slow_heights(box, acts):
    """A dict from the image sets to their heights, straight from [16.1]."""
    sets = slow_sets(box, acts)
    below = {(small, big) for small in sets for big in sets if slow_below(acts, small, big)}
    heights = {}

    def found(places):
        if places not in heights:
            less = [small for small in sets if (small, places) in below and (places, small) not in below]
            heights[places] = 0 if len(places) == 1 else 1 + max(found(small) for small in less)
        return heights[places]

    return {places: found(places) for places in sets}


def slow_tiles(sets, places):
    parts = [part for part in sets if set(part) < set(places)]
    return tuple(part for part in parts if not any(set(part) < set(other) for other in parts))


class ImageSetsTest(unittest.TestCase):

    def test_constants(self):
        self.assertGreater(len(FIVE), 10)

    def test_image_sets_heights_and_tiles(self):
        for box in BOXES:
            acts = list(slow_actions(box.table, box.letters))
            sets = slow_sets(box, acts)
            self.assertEqual(image_sets(box), tuple(sets))
            heights = slow_heights(box, acts)
            for places in sets:
                self.assertEqual(height(box, places), heights[places])
                told = slow_tiles(sets, places) if len(places) > 1 else ()
                self.assertEqual(tiles(box, places), told)
                self.assertTrue(len(told) > 1 or len(places) == 1)

    def test_words_lead_back(self):
        for box in BOXES:
            acts = list(slow_actions(box.table, box.letters))
            heights = slow_heights(box, acts)
            for places in heights:
                for action in acts if len(places) > 1 else ():
                    goal = slow_led(action, places)
                    if heights[goal] == heights[places]:
                        self.assertTrue(any(all(back[action[place]] == place for place in places) for back in acts))

    def test_wrong_places(self):
        wrong = (
            (), (0, 0), (1, 0), (0, 2), (-1,), (2,), [0], [0, 1], (True,), (False,), (False, True), (0, True),
            (0, None),
            ("0",), "0", 0, None, {0: 1}, (0, 10 ** 39), LATCH, ((0,),), (0, 1, 2),
        )
        for value in wrong + NO_WORDS:
            if value not in ((0,), (1,), (0, 1)) or any(type(place) is not int for place in value):
                for call in (height, tiles):
                    with self.assertRaises(InvalidOperation):
                        call(LATCH, value)
        wide = Box("ab", ((1, 2), (1, 1), (2, 2)))
        for value in ((0, 1), (0, 2), (0, 1, 2, 3)):
            for call in (height, tiles):
                with self.assertRaises(InvalidOperation):
                    call(wide, value)
        self.assertEqual([height(wide, (0, 1, 2)), tiles(wide, (2,))], [2, ()])


class RowPaperTest(unittest.TestCase):

    def check(self, letters, table, paper):
        row, places = paper
        self.assertIs(type(paper), tuple)
        self.assertIs(is_row(letters, row), True)
        self.assertLessEqual(len(stands(letters, row)), 1000)
        made = row_box(letters, row)
        self.assertEqual((len(made), places[0]), (len(places), 0))
        for line, place in zip(made.table, places):
            self.assertEqual(tuple(places[goal] for goal in line), table[place])
        for level in row:
            for rule in level[2]:
                self.assertEqual(list(rule), sorted(rule))

    def test_many_boxes(self):
        for box in BOXES:
            paper = row_paper(box)
            self.check(box.letters, box.table, paper)
            self.assertIs(is_row_paper(box, paper), True)
            self.assertEqual(len(paper[0]), height(box, tuple(range(len(box)))))

    def test_all_boxes_of_three_places(self):
        for box in all_boxes("ab", 3):
            row, places = row_paper(box)
            self.assertIs(is_row_paper(box, (row, places)), True)

    def test_some_boxes_of_four_places(self):
        many = 0
        for table in all_tables("ab", 4)[::37]:
            try:
                box = Box("ab", table)
            except LookupError:
                continue
            many += 1
            paper = row_paper(box)
            self.assertIs(is_row_paper(box, paper), True)
            self.assertLessEqual(len(paper[0]), height(box, (0, 1, 2, 3)))
        self.assertGreater(many, 300)

    def test_edges(self):
        self.assertEqual(row_paper(Box("ab", ((0, 0),))), ((), (0,)))
        self.assertEqual(row_paper(Box("a", ((0,),))), ((), (0,)))
        self.assertIs(is_row_paper(LATCH, row_paper(LATCH)), True)

    def test_returned_rows_are_passed_on(self):
        for box in FIVE[:6] + SMALL[::5]:
            row, places = row_paper(box)
            both = rows_beside(box.letters, row, ROW if len(box.letters) == 2 else row)
            self.assertIs(is_row(box.letters, both), True)
            self.assertLessEqual(len(row_box(box.letters, both).lean()), 1000)
            self.assertIs(is_row_paper(row_box(box.letters, row), (row, tuple(range(len(places))))), True)

    def test_no_access(self):
        told = repr(row_paper(LATCH))
        for level in row_paper(LATCH)[0]:
            for rule in level[2]:
                rule.clear()
        self.assertEqual(repr(row_paper(LATCH)), told)


class CalmPaperTest(unittest.TestCase):

    def machines(self):
        some = all_machines("a", 2) + all_machines("ab", 2) + some_machines("ab", 3, 60) + some_machines("by", 4, 60)
        some += some_machines("a", 4, 30) + [EVEN, STARTS, CLOSES] + [box.machine((0, 3)) for box in FIVE[:8]]
        some += [repeated(of_words("a", ("aaaaa",))), repeated(of_words("ab", ("aab", "bab")))]
        some += [one & other for one, other in zip(some[-30:], some[-29:]) if one.letters == other.letters]
        return [machine for machine in some if len(machine.least()) <= 5]

    def test_calm_paper(self):
        found = {}
        for machine in self.machines():
            least = machine.least()
            paper = calm_paper(machine)
            turn = slow_first_turn(least.table, least.letters)
            self.assertIs(is_calm_paper(machine, paper), True)
            self.assertEqual(paper[0], "row" if turn is None else "turn")
            found[paper[0], len(least)] = True
            if turn is None:
                RowPaperTest().check(least.letters, least.table, paper[1])
            else:
                self.assertTrue(slow_is_turn(least.table, least.letters, *paper[1]))
                self.assertIs(is_calm_paper(machine, ("row", (ROW, (0, 1)))), False)
                self.assertIs(is_calm_paper(machine, ("row", ((), (0,)))), False)
        self.assertLessEqual({("row", 1), ("row", 5), ("turn", 2), ("turn", 4), ("turn", 5)}, set(found))

    def test_is_calm_paper_of_turns(self):
        for machine in self.machines()[::4]:
            least = machine.least()
            for word in ("", "a", "b", "ab", "bab", "y"):
                for state in range(-1, 6):
                    told = set(word) <= set(machine.letters) and 0 <= state < len(least)
                    told = told and slow_is_turn(least.table, least.letters, word, state)
                    self.assertIs(is_calm_paper(machine, ("turn", (word, state))), told)

    def test_the_least_machine_counts(self):
        machine = Machine("ab", ((1, 0), (0, 1)), (0, 1))
        self.assertIs(is_turn(machine, ("a", 0)), True)
        self.assertIs(is_calm_paper(machine, ("turn", ("a", 0))), False)
        self.assertEqual(calm_paper(machine), ("row", ((), (0,))))
        self.assertIs(is_calm_paper(machine, ("row", (ROW, (0, 0)))), True)

    def test_is_calm_paper_refuses_no_value(self):
        paper = (ROW, (0, 1))
        machine = LATCH.machine((1,))
        self.assertIs(is_calm_paper(machine, ("row", paper)), True)
        wrong = (
            ("row",), ("row", paper, 0), ["row", paper], ("turn", paper), ("Row", paper), ("row", list(paper)),
            ("row", ROW), ("row", None), ("turn", None), ("turn", ("a", 0)), (paper, "row"), ("row", (ROW, (0, True))),
            ("row", (ROW, (False, 1))), {"row": paper}, ("", paper), (None, paper), (LATCH, paper), ("row", LATCH),
            ("turn", ("a",)), ("turn", ("a", True)), ("turn", ["a", 0]), (["row"], paper), "row", (True, True),
        )
        for value in wrong + NO_MACHINES + (machine,):
            self.assertIs(is_calm_paper(machine, value), False)
        for value in wrong + NO_MACHINES + (machine, ("turn", ("a", True)), ("turn", ("a", False)), ("turn", ("aa", 0)),
                                                      ("Turn", ("a", 0)), ("", ("a", 0)), (None, ("a", 0))):
            if value != ("turn", ("a", 0)):
                self.assertIs(is_calm_paper(EVEN, value), False)
        self.assertIs(is_calm_paper(EVEN, ("turn", ("ab" * 501, 1))), True)


class ErrorsTest(unittest.TestCase):

    def test_no_box(self):
        for value in NO_BOXES + (EVEN,):
            with self.assertRaises(InvalidBox):
                image_sets(value)
            with self.assertRaises(InvalidBox):
                row_paper(value)
            for call in (height, tiles):
                for places in ((0,), None):
                    with self.assertRaises(InvalidBox):
                        call(value, places)

    def test_too_many_places(self):
        for box in GREAT:
            for call in (image_sets, row_paper, lambda box: height(box, (0,)), lambda box: height(box, None),
                         lambda box: tiles(box, (0,)), lambda box: tiles(box, None)):
                with self.assertRaises(TooMany) as caught:
                    call(box)
                self.assertEqual(caught.exception.limit, 5)
        self.assertEqual(len(Box.caps("a", 4)), 5)
        self.assertIs(is_row_paper(Box.caps("a", 4), row_paper(Box.caps("a", 4))), True)

    def test_no_machine(self):
        for value in NO_MACHINES:
            if not isinstance(value, Machine):
                with self.assertRaises(InvalidMachine):
                    calm_paper(value)
                for paper in (("row", (ROW, (0, 1))), None):
                    with self.assertRaises(InvalidMachine):
                        is_calm_paper(value, paper)

    def test_too_many_states(self):
        for machine in (chain(6), repeated(of_words("ab", ("aabba",))), Box.window("ab", 2).machine((3, 4, 5))):
            for call in (calm_paper, lambda machine: is_calm_paper(machine, None),
                         lambda machine: is_calm_paper(machine, ("turn", ("a", 0)))):
                if len(machine.least()) > 5:
                    with self.assertRaises(TooMany) as caught:
                        call(machine)
                    self.assertEqual(caught.exception.limit, 5)
                else:
                    call(machine)
        self.assertEqual(calm_paper(chain(5))[0], "row")
        # More states than five, but fewer ones are enough for the same words.
        self.assertEqual(calm_paper(Box.window("ab", 3).machine((0, 1, 2)))[0], "row")
        self.assertEqual(calm_paper(Box.caps("ab", 9).machine(tuple(range(100)))), ("row", ((), (0,))))

    def test_equal_calls(self):
        for box in BOXES[::15]:
            self.assertEqual(row_paper(box), row_paper(box))


if __name__ == "__main__":
    unittest.main()
