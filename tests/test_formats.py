"""Texts, written and read, against a slow reading of the document's sentences."""

import random
import re
import unittest

from neverturns.base.joined import chained, of_words, repeated
from neverturns.base.machines import Machine
from neverturns.cloud.finding import blur, greatest_clouds
from neverturns.errors import GoesRound, InvalidBox, InvalidMachine, InvalidOperation, ParseError
from neverturns.still.boxes import Box
from neverturns.text.formats import read_box, read_cloud, read_machine, read_recipe
from neverturns.text.formats import write_box, write_cloud, write_machine, write_recipe
from tests.support import NO_BOXES, NO_MACHINES, NO_STRINGS
from tests.support import all_boxes, all_machines, chain, pairs_with_few_images, some_boxes, some_machines
from tests.test_clouds import some_recipe

EVEN = Machine("ab", ((1, 0), (0, 1)), (0,))
LATCH = Box("ab", ((1, 0), (1, 1)))
NUMBER = "(0|[1-9][0-9]*)"
LETTERS = "[a-z]{1,2}"
READS = (read_machine, read_box, read_recipe, read_cloud)
MACHINES = all_machines("a", 2) + all_machines("ab", 1) + some_machines("ab", 3, 20) + some_machines("by", 4, 40)
BOXES = all_boxes("a", 3) + all_boxes("ab", 2) + some_boxes("by", 4, 20)


def ascends(rows):
    return all(low < high for low, high in zip(rows, rows[1:]))


def slow_header(line, title):
    """The letters and the number of a first line, or None."""
    found = re.fullmatch(title + f" ({LETTERS}) {NUMBER}", line)
    if found is None or not ascends(found[1]):
        return None
    return found[1], int(found[2])


def slow_bad_line(text, kind):
    """The index of the first line that cannot stand, straight from stage 13, or None."""
    lines = text.split("\n")
    if kind in ("machine", "box"):
        head = slow_header(lines[0], kind)
        if head is None:
            return 0
        letters, size = head
        forms = [("state" if kind == "machine" else "place") + f" {NUMBER}" * len(letters)] * size
        if kind == "machine":
            forms.append(f"ends (-|{NUMBER}( {NUMBER})*)")
        for at, form in enumerate(forms, 1):
            if at == len(lines) or re.fullmatch(form, lines[at]) is None:
                return at
            if form.startswith("ends") and lines[at] != "ends -" and not ascends(list(map(int, lines[at].split()[1:]))):
                return at
        return len(forms) + 1 if len(lines) > len(forms) + 1 else None
    for at, line in enumerate(lines):
        if kind == "recipe":
            found = re.fullmatch(f"word ([a-z]+|-)|both {NUMBER} {NUMBER}|often {NUMBER}", line)
            if found is None or any(int(number) >= at for number in found.groups()[1:] if number is not None):
                return at
        else:
            if re.fullmatch(f"{NUMBER}( {NUMBER})* \\| {NUMBER}( {NUMBER})*", line) is None:
                return at
            maps = [tuple(tuple(map(int, part.split())) for part in row.split("|")) for row in lines[:at + 1]]
            if not ascends(maps):
                return at
    return None


class Case(unittest.TestCase):

    def refuse(self, call, text, line):
        with self.assertRaises(ParseError) as caught:
            call(text)
        self.assertIs(type(caught.exception), ParseError)
        self.assertEqual(caught.exception.line, line, text)
        self.assertIs(type(caught.exception.line), int)


class WrittenTest(Case):

    def test_machines(self):
        for machine in MACHINES:
            text = write_machine(machine)
            self.assertEqual(slow_bad_line(text, "machine"), None)
            lines = [f"machine {machine.letters} {len(machine)}"]
            lines += ["state " + " ".join(str(goal) for goal in line) for line in machine.table]
            lines.append("ends " + (" ".join(str(state) for state in machine.ends) or "-"))
            self.assertEqual(text, "\n".join(lines))
            made = read_machine(text)
            self.assertIs(type(made), Machine)
            self.assertEqual(made, machine)

    def test_boxes(self):
        for box in BOXES:
            text = write_box(box)
            lines = [f"box {box.letters} {len(box)}"]
            lines += ["place " + " ".join(str(goal) for goal in line) for line in box.table]
            self.assertEqual(text, "\n".join(lines))
            made = read_box(text)
            self.assertIs(type(made), Box)
            self.assertEqual(made, box)

    def test_recipes(self):
        dice = random.Random(4)
        for many in range(1, 40):
            recipe = some_recipe("ab", many, dice)
            text = write_recipe(recipe)
            self.assertEqual(len(text.split("\n")), many)
            self.assertEqual(slow_bad_line(text, "recipe"), None)
            self.assertEqual(read_recipe(text), recipe)
        recipe = (("word", ""), ("word", "zebra"), ("both", 1, 0), ("both", 0, 1), ("often", 3), ("often", 0))
        self.assertEqual(write_recipe(recipe), "word -\nword zebra\nboth 1 0\nboth 0 1\noften 3\noften 0")
        self.assertEqual(read_recipe(write_recipe(recipe)), recipe)

    def test_clouds(self):
        for one, other in pairs_with_few_images("ab", (3, 2), 10, 32) + pairs_with_few_images("ab", (4, 4), 5, 32):
            for cloud in greatest_clouds(one, other):
                text = write_cloud(cloud)
                self.assertEqual(slow_bad_line(text, "cloud"), None)
                self.assertEqual(read_cloud(text), cloud)
                told = "\n".join(" | ".join(" ".join(map(str, part)) for part in leads) for leads in cloud)
                self.assertEqual(text, told)
        for cloud in ((((0,), (0,)),), (((0,), (2, 0)), ((0, 0), (1,))), (((7, 1000), (9999,)), ((10, 0), (3,)))):
            self.assertEqual(read_cloud(write_cloud(cloud)), cloud)

    def test_greater_values(self):
        machine = chained(repeated(of_words("ab", ("aab", "b"))), of_words("ab", ("abba",)))
        for value in (machine, chain(60), Box.window("ab", 3).machine((4, 14))):
            text = write_machine(value)
            self.assertEqual(len(text.split("\n")), len(value) + 2)
            self.assertEqual(slow_bad_line(text, "machine"), None)
            with self.assertRaises(InvalidMachine):
                read_machine(text)
        for box in (Box.window("ab", 4), Box.caps("ab", 9), Box.caps("a", 9), LATCH & Box.window("ab", 2)):
            text = write_box(box)
            self.assertEqual(text.split("\n")[-1], "place " + " ".join(map(str, box.table[-1])))
            self.assertEqual(slow_bad_line(text, "box"), None)
            with self.assertRaises(InvalidBox):
                read_box(text)
        long = (("word", "ab" * 5000),) + tuple(("both", at, at) for at in range(900)) + (("often", 900),)
        self.assertEqual(read_recipe(write_recipe(long)), long)
        self.assertEqual(len(write_recipe(blur(EVEN, ~EVEN)).split("\n")), 2)
        cloud = tuple(((at, 0), tuple(range(50))) for at in range(2000))
        self.assertEqual(read_cloud(write_cloud(cloud)), cloud)


class ReadTest(Case):

    def test_machines(self):
        right = "machine ab 2\nstate 1 0\nstate 1 0\nends 0 1"
        self.assertEqual(read_machine(right), Machine("ab", ((1, 0), (1, 0)), (0, 1)))
        self.assertEqual(read_machine("machine z 1\nstate 0\nends -"), Machine("z", ((0,),)))
        for text, line in (
            ("", 0), ("\n", 0), ("machine", 0), ("machine ab", 0), ("machine ab 2 ", 0), (" machine ab 2", 0),
            ("machine  ab 2", 0), ("machine ba 2", 0), ("machine aa 2", 0), ("machine abc 2", 0), ("machine AB 2", 0),
            ("machine ab 02", 0), ("machine ab +2", 0), ("machine ab -2", 0), ("machine ab two", 0), ("box ab 2", 0),
            ("machine  2", 0), ("Machine ab 2", 0), ("machine ab 2 3", 0), ("machine\tab 2", 0), ("machine ab 2.0", 0),
            ("machine ab 2", 1), ("machine ab 2\n", 1), ("machine ab 2\nstate 1", 1), ("machine ab 2\nstate 1 0 0", 1),
            ("machine ab 2\nstate 1  0", 1), ("machine ab 2\nstate 1 0 ", 1), ("machine ab 2\n state 1 0", 1),
            ("machine ab 2\nstate 01 0", 1), ("machine ab 2\nstate -1 0", 1), ("machine ab 2\nstate +1 0", 1),
            ("machine ab 2\nplace 1 0", 1), ("machine ab 2\nstate", 1), ("machine ab 2\nstate ", 1),
            ("machine ab 2\nends 0", 1), ("machine ab 2\nstate 1 0", 2), ("machine ab 2\nstate 1 0\n", 2),
            ("machine ab 2\nstate 1 0\nends 0", 2), ("machine ab 2\nstate 1 0\n\nstate 1 0\nends 0", 2),
            ("machine ab 2\nstate 1 0\nstate 1 0", 3), ("machine ab 2\nstate 1 0\nstate 1 0\nstate 1 0", 3),
            ("machine ab 2\nstate 1 0\nstate 1 0\nends", 3), ("machine ab 2\nstate 1 0\nstate 1 0\nends ", 3),
            ("machine ab 2\nstate 1 0\nstate 1 0\nends 1 0", 3), ("machine ab 2\nstate 1 0\nstate 1 0\nends 1 1", 3),
            ("machine ab 2\nstate 1 0\nstate 1 0\nends 00", 3), ("machine ab 2\nstate 1 0\nstate 1 0\nends - 0", 3),
            ("machine ab 2\nstate 1 0\nstate 1 0\nends 0 -", 3), ("machine ab 2\nstate 1 0\nstate 1 0\nends  0", 3),
            ("machine ab 2\nstate 1 0\nstate 1 0\nends --", 3), ("machine ab 2\nstate 1 0\nstate 1 0\nend 0", 3),
            (right + "\n", 4), (right + "\nends 0 1", 4), (right + "\n\n", 4), (right + " ", 3),
            ("machine ab 0\nends 1 0", 1), ("machine ab 0\nstate 0 0\nends -", 1), ("machine ab 0\nends -\n", 2),
            ("machine ab 9\nstate 1 0\nstate 8 8\nends -", 3), ("machine ab 9999", 1),
        ):
            self.refuse(read_machine, text, line)
            self.assertEqual(slow_bad_line(text, "machine"), line, text)

    def test_machines_of_the_right_form(self):
        for text in (
            "machine ab 0\nends -", "machine ab 0\nends 0", "machine ab 1\nstate 0 1\nends -",
            "machine ab 1\nstate 0 0\nends 1", "machine a 5" + "\nstate 0" * 5 + "\nends 0",
            "machine ab 1\nstate 0 9999\nends -", "machine a 1\nstate 0\nends 0 1 2 30 400",
        ):
            self.assertIs(slow_bad_line(text, "machine"), None)
            with self.assertRaises(InvalidMachine):
                read_machine(text)

    def test_boxes(self):
        right = "box ab 2\nplace 1 0\nplace 1 1"
        self.assertEqual(read_box(right), LATCH)
        for text, line in (
            ("", 0), ("box", 0), ("box ab", 0), ("box ab 2 ", 0), ("box ba 2", 0), ("box ab 02", 0),
            ("machine ab 2", 0),
            ("box ab 2\nstate 1 0\nstate 1 1", 1), ("box ab 2\nplace 1 0", 2), ("box ab 2\nplace 1 0\n", 2),
            ("box ab 2\nplace 1\nplace 1 1", 1), ("box ab 2\nplace 1 0\nplace 1 1 1", 2),
            ("box ab 2\nplace 1 0\nplace 1 01", 2), ("box ab 2\nplace 1 0\nplace  1 1", 2), (right + "\n", 3),
            (right + "\nends -", 3), (right + "\nplace 0 0", 3), (right + " ", 2), ("box ab 0\n", 1),
            ("box a 2\nplace 1\nplace 0\nplace 0", 3), ("box a 2\nplace 1\nplace x", 2),
        ):
            self.refuse(read_box, text, line)
            self.assertEqual(slow_bad_line(text, "box"), line, text)

    def test_boxes_of_the_right_form(self):
        for text in ("box ab 0", "box a 5" + "\nplace 0" * 5, "box ab 1\nplace 0 1", "box a 2\nplace 1\nplace 2",
                     "box a 5\nplace 1\nplace 0\nplace 0\nplace 0\nplace 0"):
            self.assertIs(slow_bad_line(text, "box"), None)
            with self.assertRaises(InvalidBox):
                read_box(text)
        for text, turn in (
            ("box a 2\nplace 1\nplace 0", ("a", 0)), ("box ab 2\nplace 1 0\nplace 0 1", ("a", 0)),
            ("box ab 3\nplace 0 0\nplace 1 2\nplace 1 1", ("b", 1)),
        ):
            with self.assertRaises(GoesRound) as caught:
                read_box(text)
            self.assertEqual(caught.exception.turn, turn)

    def test_recipes(self):
        for text, line in (
            ("", 0), ("\n", 0), ("word", 0), ("word ", 0), ("word A", 0), ("word a b", 0), ("word  a", 0),
            ("word a ", 0),
            ("word --", 0), ("word a-", 0), (" word a", 0), ("word 0", 0), ("often 0", 0), ("both 0 0", 0),
            ("often", 0),
            ("both", 0), ("Word a", 0), ("letter a", 0), ("word a\n", 1), ("word a\n\nword b", 1),
            ("word a\noften 1", 1),
            ("word a\noften 00", 1), ("word a\noften -0", 1), ("word a\noften +0", 1), ("word a\noften 0 0", 1),
            ("word a\noften", 1), ("word a\nboth 0", 1), ("word a\nboth 0 1", 1), ("word a\nboth 1 0", 1),
            ("word a\nboth 0  0", 1), ("word a\nboth 0 0 0", 1), ("word a\nboth 0 0 ", 1), ("word a\noften a", 1),
            ("word a\nword b\nboth 0 1\noften 3", 3), ("word a\nword b\nboth 0 1\noften 2\n", 4),
            ("word a\noften 9999", 1), ("word a\nboth - 0", 1), ("word a\noften 0\nword", 2), ("word a\nsome 0", 1),
        ):
            self.refuse(read_recipe, text, line)
            self.assertEqual(slow_bad_line(text, "recipe"), line, text)
        self.assertEqual(read_recipe("word -"), (("word", ""),))
        self.assertEqual(read_recipe("word often\noften 0"), (("word", "often"), ("often", 0)))
        self.assertEqual(read_recipe("word " + "z" * 5000), (("word", "z" * 5000),))

    def test_clouds(self):
        for text, line in (
            ("", 0), ("\n", 0), ("0", 0), ("0 |", 0), ("| 0", 0), ("0|0", 0), ("0 |0", 0), ("0| 0", 0), ("0  | 0", 0),
            ("0 |  0", 0), (" 0 | 0", 0), ("0 | 0 ", 0), ("0 | 0 | 0", 0), ("00 | 0", 0), ("-1 | 0", 0), ("+1 | 0", 0),
            ("a | 0", 0), ("0 1  0 | 0", 0), ("0 | 01", 0), (" | ", 0), ("0 | - ", 0), ("0 | -", 0), ("0 | 0\n", 1),
            ("0 | 0\n0 | 0", 1), ("0 | 1\n0 | 0", 1), ("1 | 0\n0 | 1", 1), ("0 | 0\n\n0 | 1", 1), ("0 1 | 0\n0 | 5", 1),
            ("0 | 0\n0 | 1\n0 | 1", 2), ("0 | 0\n1 | 1\n1 | 0 1", 2), ("9 | 0\n10 | 0\n9 | 5", 2), ("0 & 0", 0),
        ):
            self.refuse(read_cloud, text, line)
            self.assertEqual(slow_bad_line(text, "cloud"), line, text)
        self.assertEqual(read_cloud("0 1 | 2\n0 1 | 2 0\n9 | 3\n10 | 0"),
                         (((0, 1), (2,)), ((0, 1), (2, 0)), ((9,), (3,)), ((10,), (0,))))

    def test_changed_texts(self):
        """Texts with one sign or one line changed, against the slow reading."""
        dice = random.Random(6)
        texts = {
            "machine": [write_machine(machine) for machine in MACHINES[::4]],
            "box": [write_box(box) for box in BOXES[::4]],
            "recipe": [write_recipe(some_recipe("ab", many, dice)) for many in range(1, 9)],
            "cloud": [write_cloud(cloud) for one, other in pairs_with_few_images("ab", (3, 2), 4, 32)
                      for cloud in greatest_clouds(one, other)],
        }
        told = {True: 0, False: 0}
        for (kind, some), call in zip(texts.items(), READS):
            for _ in range(1500):
                text = dice.choice(some)
                at = dice.randrange(len(text) + 1)
                cut = dice.randrange(3) - 1
                text = text[:at] + dice.choice(" 0123456789\n-|+abworden") + text[at + cut:]
                lines = text.split("\n")
                if dice.randrange(3) == 0:
                    del lines[dice.randrange(len(lines))]
                if dice.randrange(5) == 0:
                    lines.insert(dice.randrange(len(lines) + 1), dice.choice(lines or [""]))
                text = "\n".join(lines)
                if re.search("[0-9]{5}", text):
                    continue
                line = slow_bad_line(text, kind)
                told[line is None] += 1
                if line is not None:
                    self.refuse(call, text, line)
                else:
                    try:
                        call(text)
                    except (InvalidMachine, InvalidBox, GoesRound):
                        self.assertIn(kind, ("machine", "box"))
        self.assertGreater(min(told.values()), 300)

    def test_no_texts(self):
        for call in READS:
            for value in NO_STRINGS:
                with self.assertRaises(ParseError) as caught:
                    call(value)
                self.assertIs(caught.exception.line, None)
            for text in ("~" * 400, "\n" * 400, " ", "-", "0"):
                self.refuse(call, text, 0)


class WrongTest(unittest.TestCase):

    def test_no_machines_and_no_boxes(self):
        for value in NO_MACHINES:
            if not isinstance(value, Machine):
                with self.assertRaises(InvalidMachine):
                    write_machine(value)
        for value in NO_BOXES + (EVEN,):
            with self.assertRaises(InvalidBox):
                write_box(value)

    def test_no_recipes(self):
        wrong = (
            (("often", 0),), (("word", "a"), ("often", 1)), (("word", "a"), ("often", -1)), (("word", "a"),
            ("often", 0, 0)),
            (("word", "a"), ("often", False)), (("word", "a"), ("both", 0)), (("word", "a"), ("both", 0, 1)),
            (("word", "a"), ("both", 0, True)), (("word", "A"),), (("word", None),), (("word", "a", "b"),),
            (("word",),),
            (["word", "a"],), [("word", "a")], (("word", "a"), ["often", 0]), (("word", "a"), ("often", "0")),
            (("word", "a"), ("some", 0)), (("word", "a"), (0, "often")), (("word", "a"), None), (("word", ["a"]),),
            ("word", "a"), (("word", "a"), ("often", 10 ** 39)), (("word", "-"),), (("word", "a"), ("often", EVEN)),
            ((EVEN, "a"),), (("word", "a"), "often 0"), (((), ()),),
        )
        for value in wrong + NO_MACHINES + (EVEN, LATCH):
            with self.assertRaises(InvalidOperation):
                write_recipe(value)

    def test_no_clouds(self):
        right = ((0, 1), (0, 1))
        wrong = (
            (right, right), (right, ((0, 0), (0, 1))), [right], ([right],), (((0, 1),),), (right + ((0,),),), (((),
            (0,)),),
            (((0,), ()),), (((0, -1), (0,)),), (((0, True), (0,)),), (((False,), (0,)),), (((0, "1"), (0,)),),
            (([0], (0,)),), (((0,), [0]),), (((0,), None),), ("ab",), (("a", "b"),), (((0, None), (0,)),),
            (right, None),
            (((0,), (0,)), 1), {right: 1}, (EVEN,), ((EVEN, LATCH),), (((0,), (0, (1,))),), right, (((0,),
            (0, 10 ** 40 - 1, False)),),
        )
        for value in wrong + tuple(value for value in NO_MACHINES if value != ((0,),)) + (EVEN, LATCH):
            with self.assertRaises(InvalidOperation):
                write_cloud(value)

    def test_shapes_of_clouds_are_not_looked_at(self):
        self.assertEqual(write_cloud((((5,), (0, 1, 2)), ((5, 0), (7,)))), "5 | 0 1 2\n5 0 | 7")

    def test_equal_calls(self):
        self.assertEqual(write_machine(EVEN), write_machine(EVEN))
        self.assertEqual(read_cloud("0 | 2 0"), read_cloud("0 | 2 0"))


if __name__ == "__main__":
    unittest.main()
