"""Kinds, boxes with few places and parting papers, against slow checks of the document's sentences."""

import itertools
import unittest

from neverturns.base.joined import chained, common_word, of_words, renamed, repeated
from neverturns.base.machines import Machine
from neverturns.cloud.finding import are_blurred, blur, clear_paper
from neverturns.cloud.papers import is_blur, is_clear_paper
from neverturns.errors import InvalidMachine, InvalidNumber, InvalidOperation, TooMany
from neverturns.part.ends import least_end
from neverturns.part.kinds import KINDS, common_box, first_box, groups, is_parting_paper, kind, kind_table, latest
from neverturns.part.kinds import parting_paper, recipe_of_word
from neverturns.still.boxes import Box
from neverturns.still.sights import tells_apart
from tests.support import NO_MACHINES, NO_NUMBERS, NO_WORDS
from tests.support import all_boxes, all_machines, chain, slow_after, slow_has, slow_images, slow_is_bad, slow_led
from tests.support import slow_recipe_clouds, slow_words, some_machines

EVEN = Machine("ab", ((1, 0), (0, 1)), (0,))
ODD = Machine("ab", ((1, 0), (0, 1)), (1,))
STARTS = Machine("ab", ((1, 2), (1, 1), (2, 2)), (1,))
OTHERS = Machine("ab", ((1, 2), (1, 1), (2, 2)), (0, 2))
CLOSES = Machine("ab", ((1, 0), (1, 0)), (1,))
LATER = Machine("ab", ((0, 1), (0, 1)), (1,))
LATCH = Box("ab", ((1, 0), (1, 1)))
ALONE = Machine("a", ((0,),), (0,))
NONE = Machine("ab", ((0, 0),))
# The words of both have more than 32 images, but none is a word of both, and the last letters do not tell them apart.
WIDE = Machine("ab", ((3, 1), (2, 3), (0, 1), (2, 0)), (0,))
WIDER = Machine("ab", ((3, 1), (2, 3), (0, 1), (2, 0)), (1,))
TURNED = (("word", "a"), ("often", 0))
BOXES = {letters: [all_boxes(letters, size) for size in (1, 2, 3)] for letters in ("a", "ab")}


def some_pairs():
    """Pairs of machines with few images: some with a common word, others made of one table."""
    found = []
    for letters, size, many in (("a", 3, 20), ("a", 4, 20), ("ab", 2, 20), ("ab", 3, 250), ("ab", 4, 180)):
        machines = some_machines(letters, size, many)
        for at, machine in enumerate(machines):
            others = tuple(state for state in range(size) if state not in machine.ends)
            other = machines[at - 1] if at % 5 == 0 else Machine(letters, machine.table, others[at % 2:])
            if len(slow_images(machine, other)) <= 32:
                found.append((machine, other))
    return found


PAIRS = some_pairs() + [(EVEN, ODD), (STARTS, OTHERS), (CLOSES, LATER), (EVEN, EVEN), (NONE, EVEN), (NONE, NONE)]


def slow_kind(one, other):
    """By [0.16]: words up to the product of the sizes, clouds by stage 9, and sizes by windows."""
    pairs = {(0, 0)}
    for _ in range(len(one) * len(other)):
        pairs = pairs | {goal for first, second in pairs for goal in zip(one.table[first], other.table[second])}
    if any(first in one.ends and second in other.ends for first, second in pairs):
        return "meets"
    if are_blurred(one, other):
        return "rings"
    if any(tells_apart(one, other, Box.window(one.letters, size)) for size in range(5)):
        return "ends"
    return "still" if least_end(one, other) is None else "ends"


def slow_places(machine, box):
    """The places to which words lead the box, by all pairs of states and places."""
    pairs = {(0, 0)}
    for _ in range(len(machine) * len(box)):
        pairs = pairs | {goal for state, place in pairs for goal in zip(machine.table[state], box.table[place])}
    return {place for state, place in pairs if state in machine.ends}


def slow_tells(one, other, box):
    return not slow_places(one, box) & slow_places(other, box)


def fewest_places(machines, most):
    """The least number of places of a box that tells each two apart, by all boxes; or None."""
    for boxes in BOXES[machines[0].letters][:most]:
        for box in boxes:
            if all(slow_tells(one, other, box) for one, other in itertools.combinations(machines, 2)):
                return len(box)
    return None


class KindTest(unittest.TestCase):

    def test_constant(self):
        self.assertEqual(KINDS, ("ends", "still", "rings", "meets"))

    def test_kind(self):
        found = {told: 0 for told in KINDS}
        for one, other in PAIRS:
            told = slow_kind(one, other)
            found[told] += 1
            self.assertEqual(kind(one, other), told)
            self.assertEqual(kind(other, one), told)
        self.assertGreater(min(found.values()), 10)

    def test_the_kind_hangs_on_the_words_alone(self):
        for one, other in PAIRS[::2]:
            self.assertEqual(kind(one.least(), other.least()), kind(one, other))

    def test_renamed_machines(self):
        for one, other in PAIRS[::3]:
            if one.letters == "ab":
                for letters in ({"a": "z", "b": "c"}, {"a": "b", "b": "a"}):
                    self.assertEqual(kind(renamed(one, letters), renamed(other, letters)), kind(one, other))

    def test_greater_machines(self):
        machines = some_machines("ab", 2, 10) + some_machines("ab", 3, 6)
        for (one, other), third in itertools.product(zip(machines, machines[5:] + machines[:5]), machines[:8]):
            if max(len(slow_images(one | other, third)), len(slow_images(one, third)),
                   len(slow_images(other, third))) <= 32:
                told = latest(kind(one, third), kind(other, third))
                self.assertEqual(kind(one | other, third), told)
                self.assertLessEqual(KINDS.index(kind(one, third)), KINDS.index(told))

    def test_latest(self):
        for many in (1, 2, 3):
            for kinds in itertools.product(KINDS, repeat=many):
                self.assertEqual(latest(*kinds), KINDS[max(map(KINDS.index, kinds))])
        self.assertEqual(latest(*KINDS * 30), "meets")

    def test_latest_of_what_is_no_kind(self):
        for value in NO_WORDS + ("", "end", "Ends", "ends ", "meetss", KINDS, (KINDS,)):
            for values in ((value,), ("ends", value), (value, "ends"), ("meets", "still", value, "rings")):
                with self.assertRaises(InvalidOperation):
                    latest(*values)

    def test_no_clouds_are_needed(self):
        wide = Machine("ab", WIDE.table, (0, 1))
        self.assertGreater(len(slow_images(WIDE, wide)), 32)
        self.assertEqual(kind(WIDE, wide), "meets")
        self.assertEqual(kind(WIDE, Machine("ab", WIDE.table)), "ends")
        long = chain(45)
        self.assertEqual([kind(long, chain(50)), kind(long, long)], ["ends", "meets"])
        for call in (kind, parting_paper):
            for one, other in ((WIDE, WIDER), (WIDER, WIDE)):
                with self.assertRaises(TooMany) as caught:
                    call(one, other)
                self.assertEqual(caught.exception.limit, 32)


    def test_how_many_images_are_let(self):
        found = set()
        for size, many in ((3, 400), (4, 2500)):
            for machine in some_machines("ab", size, many):
                other = Machine("ab", machine.table, tuple(at for at in range(size) if at not in machine.ends))
                images = len(slow_images(machine, other)) if least_end(machine, other) is None else 0
                if images in (31, 32, 33, 34):
                    found.add(images)
                    for call in (kind, parting_paper, lambda one, two: kind_table((one, two)),
                                 lambda one, two: groups((one, two))):
                        if images <= 32:
                            call(machine, other)
                        else:
                            with self.assertRaises(TooMany) as caught:
                                call(machine, other)
                            self.assertEqual(caught.exception.limit, 32)
        self.assertLessEqual({32, 33}, found)


class BoxTest(unittest.TestCase):

    def check(self, machines, box, most):
        told = fewest_places(machines, most)
        if told is None:
            self.assertIs(box, None)
        else:
            self.assertIs(type(box), Box)
            self.assertEqual((box.letters, len(box)), (machines[0].letters, told))
            self.assertEqual(Box(box.letters, box.table), box)
            for one, other in itertools.combinations(machines, 2):
                self.assertTrue(slow_tells(one, other, box))

    def test_first_box(self):
        found = set()
        for one, other in PAIRS[::4] + PAIRS[-6:]:
            for most in (1, 2, 3):
                box = first_box(one, other, most)
                self.check((one, other), box, most)
                found.add((most, box and len(box)))
                if kind(one, other) in ("rings", "meets"):
                    self.assertIs(box, None)
        self.assertEqual(len(found), 9)

    def test_common_box(self):
        found = set()
        # Words that end with a, with b, the empty one, and some more.
        some = (CLOSES, LATER, of_words("ab", ("",)), NONE, STARTS, OTHERS, of_words("ab", ("a", "b")), EVEN)
        for many in (2, 3, 4):
            for machines in itertools.combinations(some, many):
                for most in (1, 3) if many < 4 else (2, 3):
                    box = common_box(machines, most)
                    found.add((many, box and len(box)))
                    if common_word(*machines[:2]) is None:
                        self.check(machines, box, most)
                    else:
                        self.assertIs(box, None)
        self.assertLessEqual({(2, 1), (2, 2), (2, 3), (2, None), (3, 2), (3, 3), (4, 3), (4, None)}, found)

    def test_single_letters(self):
        machines = all_machines("a", 2) + all_machines("a", 3)[::7]
        for one, other in zip(machines, machines[3:] + machines[:3]):
            for most in (1, 3):
                self.check((one, other), first_box(one, other, most), most)
        self.check((ALONE, Machine("a", ((0,),))), common_box((ALONE, Machine("a", ((0,),))), 1), 1)

    def test_greater_machines(self):
        one = of_words("ab", ("aa", "bbabab", "abba"))
        self.assertGreater(len(one), 6)
        self.assertEqual(len(first_box(one, CLOSES - one, 3) or "none"), 4)
        other = chained(of_words("ab", ("b",)), repeated(of_words("ab", ("a", "bb"))))
        self.check((other, STARTS), first_box(other, STARTS, 3), 3)
        self.check((WIDE, Machine("ab", WIDE.table)), first_box(WIDE, Machine("ab", WIDE.table), 1), 1)
        self.assertIs(first_box(WIDE, WIDER, 3), None)
        self.assertIs(common_box((WIDE, WIDER), 3), None)

    def test_wrong_numbers(self):
        for most in NO_NUMBERS + (-1, 0, 4, 10 ** 11, 10 ** 39, True, False):
            for one, other in ((EVEN, ODD), (EVEN, ALONE)):
                with self.assertRaises(InvalidNumber) as caught:
                    first_box(one, other, most)
                self.assertIs(caught.exception.value, most)
            with self.assertRaises(InvalidNumber) as caught:
                common_box((EVEN, ODD), most)
            self.assertIs(caught.exception.value, most)


class FamilyTest(unittest.TestCase):

    def families(self):
        machines = some_machines("ab", 2, 9) + [STARTS, OTHERS, CLOSES, LATER, EVEN, ODD, NONE]
        for at, one in enumerate(machines):
            for many in (2, 3, 4):
                yield (one, machines[at - 5], machines[at - 3], machines[at - 1])[:many]

    def test_kind_table(self):
        for machines in self.families():
            table = kind_table(machines)
            self.assertIs(type(table), dict)
            pairs = list(itertools.combinations(range(len(machines)), 2))
            self.assertEqual(list(table), pairs)
            for first, second in pairs:
                self.assertEqual(table[first, second], kind(machines[first], machines[second]))

    def test_groups(self):
        sizes = set()
        for machines in self.families():
            table = kind_table(machines)
            linked = {pair for pair in table if table[pair] in ("rings", "meets")}
            linked |= {pair[::-1] for pair in linked} | {(at, at) for at in range(len(machines))}
            for _ in machines:
                linked |= {(one, other) for one, by in linked for start, other in linked if start == by}
            told = {tuple(other for other in range(len(machines)) if (at, other) in linked) for at, _ in
                    enumerate(machines)}
            self.assertEqual(groups(machines), tuple(sorted(told)))
            sizes.add((len(machines), len(told)))
        self.assertLessEqual({(2, 1), (2, 2), (3, 1), (3, 2), (4, 1), (4, 2), (4, 3)}, sizes)

    def test_groups_by_way_of_others(self):
        # The first and the last one are told apart, but the one between meets both.
        self.assertEqual(groups((CLOSES, LATER, STARTS)), ((0, 1, 2),))
        self.assertEqual(groups((CLOSES, STARTS, LATER)), ((0, 1, 2),))
        self.assertEqual(groups((CLOSES, NONE, LATER, CLOSES)), ((0, 3), (1,), (2,)))
        self.assertEqual(groups((NONE, NONE)), ((0,), (1,)))
        self.assertEqual(groups((LATER, EVEN, CLOSES, ODD)), ((0, 1, 2, 3),))

    def test_wrong_families(self):
        wrong = (
            (), (EVEN,), (EVEN,) * 5, [EVEN, ODD], (EVEN, None), (EVEN, ODD, LATCH), (EVEN, ALONE), (ALONE, EVEN, ODD),
            (EVEN, ODD, CLOSES, Machine("ac", ((0, 0),))), {0: EVEN, 1: ODD}, EVEN, (EVEN, (ODD,)), "ab",
            (EVEN, True),
        )
        for value in wrong + NO_MACHINES:
            for call in (kind_table, groups):
                with self.assertRaises(InvalidOperation):
                    call(value)
            for most in (1, 0, None):
                with self.assertRaises(InvalidOperation):
                    common_box(value, most)

    def test_too_many_images(self):
        for call in (kind_table, groups):
            with self.assertRaises(TooMany) as caught:
                call((EVEN, WIDE, WIDER))
            self.assertEqual(caught.exception.limit, 32)
            call((WIDE, Machine("ab", WIDE.table), Machine("ab", WIDE.table, (0, 1))))


class PaperTest(unittest.TestCase):

    def test_parting_paper(self):
        found = {}
        for one, other in PAIRS:
            value = parting_paper(one, other)
            self.assertIs(type(value), tuple)
            name, proof = value
            told = slow_kind(one, other)
            found[told, name] = True
            self.assertIs(is_parting_paper(one, other, value), True)
            if name == "blur":
                self.assertTrue(is_blur(one, other, proof))
                self.assertTrue(slow_is_bad(one, other, slow_recipe_clouds(one, other, proof)[-1]))
            elif name == "clear":
                self.assertTrue(is_clear_paper(one, other, proof))
            elif name == "box":
                self.assertTrue(slow_tells(one, other, proof))
            else:
                self.assertTrue(least_end(one, other) <= proof <= 40)
            self.assertIs(name == "blur", told in ("rings", "meets"))
        self.assertEqual(set(told for told, _ in found), set(KINDS))

    def test_long_common_words(self):
        for size, word in ((70, "a" * 68), (200, "a" * 198)):
            paper = parting_paper(chain(size), chain(size))
            self.assertEqual(paper[0], "blur")
            self.assertIs(is_parting_paper(chain(size), chain(size), paper), True)
            self.assertEqual(common_word(chain(size), chain(size)), word)

    def test_recipe_of_word(self):
        for word in ("", "a", "ab" * 30, "a" * 61, "ab" * 1000, "aab" * 40 + "b", "ba" * 6000, "b" * 50000):
            recipe = recipe_of_word(word)
            self.assertLessEqual(len(recipe), 400)
            made = []
            for step in recipe:
                if step[0] == "word":
                    self.assertLessEqual(len(step[1]), 60)
                    made.append(step[1])
                else:
                    self.assertEqual(step[0], "both")
                    made.append(made[step[1]] + made[step[2]])
            self.assertEqual(made[-1], word)

    def test_sizes_above_forty(self):
        one, other = chain(52), chain(70)
        self.assertEqual(least_end(one, other), 51)
        for pair in ((one, other), (other, one)):
            self.assertEqual(kind(*pair), "ends")
            paper = parting_paper(*pair)
            self.assertIs(is_parting_paper(*pair, paper), True)
            self.assertIs(is_parting_paper(*pair, ("ends", 51)), False)

    def test_is_parting_paper(self):
        many = {}
        for one, other in PAIRS[::3]:
            told = slow_kind(one, other)
            values = [("ends", size) for size in (0, 1, 2, 40)] + [("box", box) for box in BOXES["ab"][1][::3]]
            values += [("box", LATCH), ("box", Box.window("ab", 3)), ("box", Box.caps("ab", 2))]
            recipe = blur(one, other)
            paper = clear_paper(one, other)
            values += [("blur", recipe), ("blur", paper), ("clear", paper), ("clear", recipe), ("box", recipe)]
            values += [("blur", TURNED), ("blur", (("word", ""),)), ("clear", ())]
            for value in values:
                name, proof = value
                if name == "ends":
                    right = least_end(one, other) is not None and least_end(one, other) <= proof
                elif name == "box":
                    right = isinstance(proof, Box) and one.letters == "ab" and slow_tells(one, other, proof)
                elif name == "blur":
                    right = proof is not None and is_blur(one, other, proof)
                else:
                    right = proof is not None and is_clear_paper(one, other, proof)
                many[name, right] = many.get((name, right), 0) + 1
                self.assertIs(is_parting_paper(one, other, value), right, (told, value))
        self.assertEqual(len(many), 8)
        self.assertGreater(min(many.values()), 5)

    def test_is_parting_paper_needs_no_clouds(self):
        self.assertIs(is_parting_paper(WIDE, WIDER, ("box", LATCH)), False)
        self.assertIs(is_parting_paper(WIDE, WIDER, ("ends", 3)), False)
        self.assertIs(is_parting_paper(WIDE, WIDER, ("clear", ())), False)
        self.assertIs(is_parting_paper(WIDE, WIDER, ("blur", TURNED)), False)
        self.assertIs(is_parting_paper(WIDE, Machine("ab", WIDE.table, (3,)), ("blur", (("word", "a"),))), False)
        self.assertIs(is_parting_paper(WIDE, Machine("ab", WIDE.table, (0, 3)), ("blur", (("word", "aaa"),))),
                      slow_has(WIDE, "aaa"))
        self.assertIs(is_parting_paper(WIDE, Machine("ab", WIDE.table), ("box", LATCH)), True)

    def test_is_parting_paper_refuses_no_value(self):
        wrong = (
            ("ends",), ("ends", 1, 1), ["ends", 1], ("ends", True), ("ends", False), ("ends", -1), ("ends", 41),
            ("ends", 10 ** 39), ("ends", "1"), ("ends", None), ("ends", (1,)), ("Ends", 1), ("size", 1), (1, "ends"),
            ("box", None), ("box", ((1, 0), (1, 1))), ("box", CLOSES), ("box", Box("a", ((0,),))), ("box", (LATCH,)),
            ("box", Box("ac", ((0, 1), (0, 1)))), ("clear", None), ("blur", None), ("clear", 1), ("blur", 1),
            ("clear", []), ("blur", list(TURNED)), ("blur", ()), ({}, 1), ([], []), (LATCH, "box"),
            (EVEN, ODD), {"ends": 1}, "ends", ("", 1), (None, None), (True, 1), ("meets", "a"),
        )
        self.assertIs(is_parting_paper(CLOSES, LATER, ("ends", 1)), True)
        self.assertIs(is_parting_paper(CLOSES, LATER, ("box", Box("ab", ((1, 0), (1, 0))))), True)
        self.assertIs(is_parting_paper(EVEN, ODD, ("blur", TURNED)), True)
        for name in ("Blur", "", "clear", "box", None, TURNED):
            self.assertIs(is_parting_paper(EVEN, ODD, (name, TURNED)), False)
        for value in wrong + NO_MACHINES + (EVEN, LATCH):
            self.assertIs(is_parting_paper(CLOSES, LATER, value), False)
            self.assertIs(is_parting_paper(EVEN, ODD, value), False)


class ErrorsTest(unittest.TestCase):

    def test_no_machine(self):
        for value in NO_MACHINES:
            if not isinstance(value, Machine):
                for one, other in ((value, EVEN), (EVEN, value), (ALONE, value), (value, None)):
                    for call, rest in (
                        (kind, ()), (first_box, (1,)), (first_box, (0,)), (parting_paper, ()),
                        (is_parting_paper, (None,)), (is_parting_paper, (("ends", 1),)),
                    ):
                        with self.assertRaises(InvalidMachine):
                            call(one, other, *rest)

    def test_other_letters(self):
        for one, other in ((WIDE, ALONE), (ALONE, WIDE), (EVEN, Machine("ac", ((1, 0), (0, 1)), (1,)))):
            for call, rest in (
                (kind, ()), (first_box, (1,)), (parting_paper, ()), (is_parting_paper, (None,)),
                (is_parting_paper, (("ends", 1),)),
            ):
                with self.assertRaises(InvalidOperation):
                    call(one, other, *rest)

    def test_nothing_is_changed(self):
        machines = (STARTS, OTHERS, EVEN)
        answers = []
        for _ in range(2):
            table = kind_table(machines)
            answers.append((
                dict(table), groups(machines), parting_paper(STARTS, OTHERS), first_box(STARTS, OTHERS, 3),
                common_box((CLOSES, LATER), 2),
            ))
            table.clear()
        self.assertEqual(answers[0], answers[1])
        for word in slow_words("ab", 3):
            self.assertEqual(slow_led(STARTS.table, "ab", 0, word), slow_after(STARTS, word))


if __name__ == "__main__":
    unittest.main()
