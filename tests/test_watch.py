"""A watch, against a slow model that keeps all that was fed."""

import random
import unittest

from neverturns.base.joined import of_words
from neverturns.base.machines import Machine
from neverturns.errors import InvalidBox, InvalidMachine, InvalidNumber, InvalidOperation, InvalidWord
from neverturns.errors import NothingToUndo, Refused, UnknownName
from neverturns.live.watch import Watch
from neverturns.still.boxes import Box
from neverturns.still.sights import tells_apart
from tests.support import NO_BOXES, NO_MACHINES, NO_NUMBERS, NO_WORDS
from tests.support import all_boxes, slow_led, slow_words, some_boxes, some_machines

EVEN = Machine("ab", ((1, 0), (0, 1)), (0,))
ODD = Machine("ab", ((1, 0), (0, 1)), (1,))
STARTS = Machine("ab", ((1, 2), (1, 1), (2, 2)), (1,))
CLOSES = Machine("ab", ((1, 0), (1, 0)), (1,))
LATER = Machine("ab", ((0, 1), (0, 1)), (1,))
NONE = Machine("ab", ((0, 0),))
LATCH = Box("ab", ((1, 0), (1, 1)))
ONE = Box("ab", ((0, 0),))
FOUR = Box("ab", ((1, 0), (2, 1), (3, 2), (3, 3)))
NO_NAMES = NO_WORDS + ("", "abcdefghi", "a" * 400, "a b", "Ab", "a1", "x\n")
MACHINES = some_machines("ab", 2, 6) + some_machines("ab", 3, 6) + [NONE, EVEN, STARTS]
BOXES = all_boxes("ab", 2)[::2] + some_boxes("ab", 3, 8) + some_boxes("ab", 4, 8) + [Box.window("ab", 2)]


def filled(box=LATCH):
    """A watch with machines, accounts, changes to take back and changes to do again."""
    watch = Watch(box)
    watch.add_machine("starts", STARTS)
    watch.add_machine("even", EVEN)
    watch.begin("y")
    watch.begin("x")
    watch.feed("x", "b")
    watch.feed("y", "ba")
    watch.add_machine("late", LATER)
    watch.drop_machine("even")
    watch.undo(many=2)
    return watch


def shown(watch):
    """All that a watch shows."""
    return (
        watch.box, watch.machines, list(watch.machines), watch.places, list(watch.places), watch.doubts, list(watch),
        len(watch), str(watch), [watch.guesses(name) for name in watch], [watch.place(name) for name in watch],
    )


def history(watch):
    """What a watch shows after each number of changes that can be taken back or done again."""
    twin = watch.twin()
    count = twin.undo(many=0)
    rows = [shown(twin)]
    for _ in range(count):
        twin.undo()
        rows.append(shown(twin))
    twin = watch.twin()
    while True:
        try:
            twin.redo()
        except NothingToUndo:
            return count, rows
        rows.append(shown(twin))


class Model:
    """A slow watch that keeps the words that were fed, and copies of all it was."""

    def __init__(self, box):
        self.now = (box, {}, {})
        self.past = []
        self.future = []

    def change(self, **parts):
        box, machines, words = self.now
        self.past.append(self.now)
        self.future = []
        self.now = (parts.get("box", box), parts.get("machines", machines), parts.get("words", words))

    def seen(self, machine):
        """The places to which words of a machine lead, by all words that are long enough for two machines."""
        box = self.now[0]
        pairs = {(0, 0)}
        for _ in range(len(machine) * len(box)):
            pairs |= {goal for state, place in pairs for goal in zip(machine.table[state], box.table[place])}
        return {place for state, place in pairs if state in machine.ends}

    def shown(self):
        box, machines, words = self.now
        places = {name: slow_led(box.table, "ab", 0, words[name]) for name in sorted(words)}
        names = sorted(machines)
        doubts = [(one, other) for one in names for other in names
                  if one < other and self.seen(machines[one]) & self.seen(machines[other])]
        guesses = [tuple(one for one in names if place in self.seen(machines[one])) for place in places.values()]
        told = f"watch of {len(names)} machines, {len(words)} accounts, {len(box)} places"
        return (
            box, machines, names, places, list(places), tuple(doubts), list(places), len(places), told,
            guesses, list(places.values()),
        )


class ModelTest(unittest.TestCase):

    def step(self, dice, watch, model):
        """One call of a watch, and the same by the model."""
        box, machines, words = model.now
        call = dice.choice(("add", "add", "drop", "begin", "close", "feed", "feed", "feed", "box", "undo", "redo"))
        name = dice.choice("pqrst")
        if call == "add" and name not in machines:
            machine = dice.choice(MACHINES)
            told = tuple(other for other in sorted(machines) if model.seen(machine) & model.seen(machines[other]))
            self.assertEqual(watch.add_machine(name, machine), told)
            model.change(machines={**machines, name: machine})
        elif call == "drop" and name in machines:
            self.assertIs(watch.drop_machine(name), None)
            model.change(machines={other: machines[other] for other in machines if other != name})
        elif call == "begin" and name not in words:
            self.assertIs(watch.begin(name), None)
            model.change(words={**words, name: ""})
        elif call == "close" and name in words:
            told = watch.guesses(name)
            self.assertEqual(watch.close(name), told)
            model.change(words={other: words[other] for other in words if other != name})
        elif call == "feed" and name in words:
            word, times = dice.choice(("", "a", "b", "ab", "bba")), dice.choice((0, 1, 1, 2, 7))
            place = watch.feed(name, word, times=times) if times != 1 else watch.feed(name, word)
            model.change(words={**words, name: words[name] + word * times})
            self.assertEqual(place, slow_led(box.table, "ab", 0, words[name] + word * times))
        elif call == "box":
            self.change_box(dice.choice(BOXES + [box.lean(), ONE]), watch, model)
        elif call in ("undo", "redo"):
            self.go_back(call, dice.choice((0, 1, 1, 2, 3)), watch, model)

    def change_box(self, other, watch, model):
        box = model.now[0]
        pairs = {(box(word), other(word)) for word in slow_words("ab", 6)}
        split = [pair for pair in pairs if any(pair[0] == place and pair[1] != goal for place, goal in pairs)]
        try:
            self.assertIs(watch.change_box(other), None)
            self.assertEqual(split, [])
            model.change(box=other)
        except Refused as error:
            one, two = error.reason
            self.assertIs(type(error.reason), tuple)
            self.assertTrue(box(one) == box(two) and other(one) != other(two))

    def go_back(self, call, many, watch, model):
        rows = model.past if call == "undo" else model.future
        if many > len(rows):
            with self.assertRaises(NothingToUndo) as caught:
                getattr(watch, call)(many=many)
            self.assertEqual(caught.exception.many, many)
            return
        for _ in range(many):
            if call == "undo":
                model.future.append(model.now)
                model.now = model.past.pop()
            else:
                model.past.append(model.now)
                model.now = model.future.pop()
        told = getattr(watch, call)(many=many) if many != 1 else getattr(watch, call)()
        self.assertEqual(told, len(model.past))

    def test_many_calls(self):
        dice = random.Random(8)
        for _ in range(25):
            box = dice.choice(BOXES)
            watch, model = Watch(box), Model(box)
            for _ in range(40):
                self.step(dice, watch, model)
                self.assertEqual(shown(watch), model.shown())


class ChangesTest(unittest.TestCase):

    def test_a_new_watch(self):
        watch = Watch(LATCH)
        self.assertEqual(shown(watch), (LATCH, {}, [], {}, [], (), [], 0,
                                        "watch of 0 machines, 0 accounts, 2 places", [], []))
        self.assertEqual([watch.undo(many=0), watch.redo(many=0)], [0, 0])

    def test_names_of_one_and_of_eight_letters(self):
        watch = Watch(LATCH)
        for name in ("a", "z", "abcdefgh", "zzzzzzzz"):
            self.assertEqual(watch.add_machine(name, NONE), ())
            watch.begin(name)
            self.assertEqual(watch.place(name), 0)
        self.assertEqual(list(watch), ["a", "abcdefgh", "z", "zzzzzzzz"])
        self.assertEqual(list(watch.machines), ["a", "abcdefgh", "z", "zzzzzzzz"])

    def test_times(self):
        watch = Watch(FOUR)
        watch.begin("x")
        self.assertEqual([watch.feed("x", "a", times=0), watch.feed("x", "ab", times=2)], [0, 2])
        for times in (10 ** 11, 10 ** 12 - 1, 10 ** 39):
            self.assertEqual(watch.feed("x", "ab", times=times), 3)
        self.assertEqual(watch.undo(many=0), 6)
        self.assertEqual(watch.feed("x", ""), 3)
        self.assertEqual(watch.undo(many=0), 7)
        self.assertEqual(watch.feed("x", "ab" * 50000, times=10 ** 11), 3)

    def test_pieces_do_not_matter(self):
        for box in BOXES:
            watch = Watch(box)
            for at, cuts in enumerate(((), (1,), (2, 3), (0, 0, 4), (1, 2, 3, 4, 5))):
                name = "pqrst"[at]
                watch.begin(name)
                for begin, end in zip((0,) + cuts, cuts + (6,)):
                    watch.feed(name, "abbaab"[begin:end])
            self.assertEqual(set(watch.places.values()), {box("abbaab")})
            # As often as there are places, and once more.
            for word in ("a", "ba", "bba"):
                place = watch.feed("p", word, times=len(box))
                self.assertEqual(watch.feed("p", word), place)

    def test_guesses(self):
        for box in BOXES:
            watch = Watch(box)
            for at, machine in enumerate(MACHINES[:8]):
                watch.add_machine("pqrstuvw"[at], machine)
            doubtful = {name for pair in watch.doubts for name in pair}
            for word in slow_words("ab", 3):
                watch.begin("x")
                watch.feed("x", word)
                guesses = watch.guesses("x")
                for name, machine in watch.machines.items():
                    if word in machine:
                        self.assertIn(name, guesses)
                        if name not in doubtful:
                            self.assertEqual(guesses, (name,))
                self.assertEqual(watch.close("x"), guesses)

    def test_what_add_machine_tells(self):
        watch = Watch(ONE)
        self.assertEqual(watch.add_machine("q", STARTS), ())
        self.assertEqual(watch.add_machine("z", NONE), ())
        self.assertEqual(watch.add_machine("b", EVEN), ("q",))
        self.assertEqual(watch.add_machine("m", EVEN), ("b", "q"))
        self.assertEqual(watch.add_machine("a", NONE), ())
        self.assertEqual(watch.doubts, (("b", "m"), ("b", "q"), ("m", "q")))

    def test_change_box(self):
        watch = Watch(Box("ab", ((1, 2), (1, 1), (2, 2))))
        watch.begin("p")
        watch.begin("q")
        watch.begin("r")
        watch.feed("p", "a")
        watch.feed("q", "b")
        self.assertEqual(watch.places, {"p": 1, "q": 2, "r": 0})
        wide = Box("ab", ((2, 1), (1, 1), (2, 2)))
        self.assertIs(watch.change_box(wide), None)
        self.assertEqual((watch.places, watch.box), ({"p": 2, "q": 1, "r": 0}, wide))
        watch.change_box(wide)
        watch.change_box(Box("ab", ((1, 1), (1, 1))))
        self.assertEqual(watch.places, {"p": 1, "q": 1, "r": 0})
        with self.assertRaises(Refused) as caught:
            watch.change_box(wide)
        one, two = caught.exception.reason
        self.assertTrue(watch.box(one) == watch.box(two) and wide(one) != wide(two))
        watch.change_box(ONE)
        self.assertEqual((set(watch.places.values()), watch.undo(), watch.places["r"]), ({0}, 8, 0))
        self.assertEqual(watch.undo(many=2), 6)
        self.assertEqual(watch.places, {"p": 2, "q": 1, "r": 0})

    def test_places_that_are_not_reached_do_not_matter(self):
        watch = Watch(LATCH)
        watch.begin("x")
        watch.feed("x", "a")
        watch.change_box(Box("ab", ((2, 0), (3, 1), (2, 2), (3, 3))))
        self.assertEqual(watch.places, {"x": 2})
        watch.change_box(LATCH)
        self.assertEqual(watch.places, {"x": 1})


class UndoTest(unittest.TestCase):

    def calls(self):
        return (
            lambda watch: watch.add_machine("new", EVEN), lambda watch: watch.drop_machine("starts"),
            lambda watch: watch.begin("new"), lambda watch: watch.close("x"), lambda watch: watch.feed("x", "a"),
            lambda watch: watch.feed("x", ""), lambda watch: watch.feed("x", "ab", times=0),
            lambda watch: watch.change_box(ONE), lambda watch: watch.change_box(LATCH),
        )

    def test_each_change_is_taken_back_and_done_again(self):
        for call in self.calls():
            watch = filled()
            before = shown(watch)
            call(watch)
            after = shown(watch)
            self.assertEqual([watch.undo(), shown(watch)], [6, before])
            self.assertEqual([watch.redo(), shown(watch)], [7, after])
            with self.assertRaises(NothingToUndo):
                watch.redo()

    def test_many_at_once(self):
        watch = filled()
        watch.redo(many=2)
        rows = [shown(watch)]
        for _ in range(8):
            watch.undo()
            rows.append(shown(watch))
        for start in range(9):
            for goal in range(9):
                if goal < start:
                    self.assertEqual(watch.undo(many=start - goal), goal)
                else:
                    self.assertEqual(watch.redo(many=goal - start), goal)
                self.assertEqual(shown(watch), rows[8 - goal])
                if goal < start:
                    watch.redo(many=start - goal)
                else:
                    watch.undo(many=goal - start)
            if start < 8:
                watch.redo()

    def test_too_many(self):
        watch = filled()
        told = history(watch)
        for call, many in ((watch.undo, 7), (watch.undo, 10 ** 12), (watch.undo, 10 ** 39), (watch.redo, 3),
                           (watch.redo, 10 ** 39)):
            with self.assertRaises(NothingToUndo) as caught:
                call(many=many)
            self.assertEqual(caught.exception.many, many)
            self.assertEqual(history(watch), told)

    def test_wrong_numbers(self):
        watch = filled()
        told = history(watch)
        for many in NO_NUMBERS + (-1, -10 ** 39, True, False):
            for call in (watch.undo, watch.redo):
                with self.assertRaises(InvalidNumber) as caught:
                    call(many=many)
                self.assertIs(caught.exception.value, many)
        self.assertEqual(history(watch), told)

    def test_a_change_behind_an_undo(self):
        for call in self.calls():
            watch = filled()
            call(watch)
            with self.assertRaises(NothingToUndo):
                watch.redo()
            self.assertEqual(watch.undo(many=0), 7)
        watch = filled()
        watch.guesses("x")
        watch.undo(many=0)
        self.assertEqual(watch.redo(many=2), 8)


class BlocksTest(unittest.TestCase):

    def test_attempt(self):
        for call in UndoTest().calls() + (lambda watch: watch.undo(many=3), lambda watch: watch.redo()):
            watch = filled()
            told = history(watch)
            with watch.attempt() as same:
                self.assertIs(same, watch)
                call(watch)
                self.assertNotEqual(history(watch), told)
            self.assertEqual(history(watch), told)

    def test_the_block_begins_where_it_is_entered(self):
        watch = filled()
        block = watch.attempt()
        watch.feed("x", "a")
        told = history(watch)
        for _ in range(2):
            with block as same:
                same.close("x")
            self.assertEqual(history(watch), told)

    def test_errors_go_on(self):
        watch = filled()
        told = history(watch)
        for error in (KeyError("x"), ValueError(), UnknownName("x"), KeyboardInterrupt()):
            with self.assertRaises(type(error)) as caught:
                with watch.attempt():
                    watch.undo(many=6)
                    watch.begin("z")
                    raise error
            self.assertIs(caught.exception, error)
            self.assertEqual(history(watch), told)
        with self.assertRaises(UnknownName):
            with watch.attempt() as same:
                same.close("x")
                same.close("x")
        self.assertEqual(history(watch), told)

    def test_blocks_within_one_another(self):
        watch = filled()
        told = history(watch)
        with watch.attempt():
            watch.feed("x", "a")
            watch.undo(many=3)
            inner = history(watch)
            with self.assertRaises(NothingToUndo):
                with watch.attempt():
                    watch.redo(many=2)
                    with watch.attempt():
                        watch.change_box(ONE)
                    self.assertEqual(watch.box, LATCH)
                    watch.redo(many=10)
            self.assertEqual(history(watch), inner)
            self.assertEqual(watch.during(lambda same: (same.undo(), same.undo())), (3, 2))
            self.assertEqual(history(watch), inner)
        self.assertEqual(history(watch), told)

    def test_during(self):
        watch = filled()
        told = history(watch)
        self.assertEqual(watch.during(lambda same: (same is watch, same.feed("x", "a"), same.guesses("x"))),
                         (True, 1, ("even", "starts")))
        self.assertIs(watch.during(lambda same: same.change_box(ONE)), None)
        self.assertIs(watch.during(lambda same: same), watch)
        self.assertEqual(history(watch), told)
        for call in (lambda same: same.drop_machine("none"), lambda same: (same.begin("z"), same.begin("z"))):
            with self.assertRaises((UnknownName, InvalidOperation)):
                watch.during(call)
            self.assertEqual(history(watch), told)

    def test_twin(self):
        for call in UndoTest().calls():
            watch = filled()
            twin = watch.twin()
            told = history(watch)
            self.assertIs(type(twin), Watch)
            self.assertIsNot(twin, watch)
            self.assertTrue(twin == watch)
            self.assertEqual(history(twin), told)
            call(twin)
            self.assertEqual(history(watch), told)
            twin.undo(many=7)
            self.assertEqual(history(watch), told)
            second = watch.twin()
            call(watch)
            watch.undo(many=2)
            self.assertEqual(history(second), told)

    def test_a_twin_in_a_block(self):
        watch = filled()
        with watch.attempt():
            watch.feed("x", "a")
            twin = watch.twin()
            twin.feed("x", "b")
        self.assertEqual((watch.place("x"), twin.place("x"), twin.undo(many=0)), (0, 1, 8))
        twin = watch.twin()
        with watch.attempt():
            twin.feed("x", "a")
        self.assertEqual((watch.place("x"), twin.place("x")), (0, 1))


class AccessTest(unittest.TestCase):

    def test_item_and_in(self):
        watch = filled()
        self.assertIs(watch["starts"], STARTS)
        self.assertEqual(["starts" in watch, "even" in watch, "x" in watch, "late" in watch],
        [True, True, False, False])
        for value in NO_NAMES + ("x", "late", EVEN, STARTS, LATCH, watch):
            self.assertIs(value in watch, False)
            with self.assertRaises(UnknownName) as caught:
                watch[value]
            self.assertIs(caught.exception.name, value)

    def test_iteration(self):
        watch = filled()
        names = iter(watch)
        self.assertEqual(next(names), "x")
        watch.begin("xa")
        watch.close("y")
        self.assertEqual(list(names), ["y"])
        self.assertEqual(list(watch), ["x", "xa"])
        found = []
        for name in watch:
            found.append(name)
            watch.close(name)
        self.assertEqual((found, list(watch), len(watch)), (["x", "xa"], [], 0))
        self.assertEqual((not watch, sorted(watch.machines)), (True, ["even", "starts"]))

    def test_what_is_returned_gives_no_access(self):
        watch = filled()
        told = history(watch)
        watch.machines.clear()
        watch.machines["new"] = EVEN
        watch.places["x"] = 1
        watch.places.clear()
        del watch.machines["even"]
        self.assertEqual(history(watch), told)
        for name in ("box", "machines", "places", "doubts"):
            with self.assertRaises(AttributeError):
                setattr(watch, name, {})
        machines = watch.machines
        watch.drop_machine("even")
        self.assertEqual(list(machines), ["even", "starts"])

    def test_equal(self):
        one, other = filled(), Watch(LATCH)
        self.assertIs(one == other, False)
        other.begin("x")
        other.add_machine("even", EVEN)
        other.begin("y")
        other.add_machine("starts", STARTS)
        other.feed("y", "a")
        self.assertIs(one == other, True)
        self.assertIs(one != other, False)
        for call in (
            lambda watch: watch.feed("x", "a"), lambda watch: watch.close("x"), lambda watch: watch.begin("z"),
            lambda watch: watch.drop_machine("even"), lambda watch: watch.add_machine("z", NONE),
            lambda watch: watch.change_box(ONE), lambda watch: (watch.drop_machine("even"),
                                                               watch.add_machine("even", ODD)),
        ):
            call(other)
            self.assertIs(one == other, False)
            self.assertIs(one != other, True)
            other.undo(many=other.undo(many=0) - 5)
            self.assertIs(one == other, True)
        for value in NO_BOXES + (LATCH, EVEN):
            self.assertIs(one == value, False)
            self.assertIs(value == one, False)
        self.assertIs(Watch(LATCH) == Watch(Box("ac", ((1, 0), (1, 1)))), False)

    def test_str(self):
        watch = filled(Box.window("ab", 2))
        self.assertEqual(str(watch), "watch of 2 machines, 2 accounts, 7 places")
        watch.undo(many=6)
        self.assertEqual(str(watch), "watch of 0 machines, 0 accounts, 7 places")

    def test_equal_calls(self):
        one, other = filled(), filled()
        self.assertEqual(history(one), history(other))

    def test_greater_boxes_and_machines(self):
        box = Box.caps("ab", 9) & Box.window("ab", 1)
        watch = Watch(box)
        long = of_words("ab", ("ababab", "bb"))
        self.assertEqual([watch.add_machine("long", long), watch.add_machine("even", EVEN)], [(), ("long",)])
        watch.begin("x")
        self.assertEqual(watch.feed("x", "ab", times=3), box("ababab"))
        self.assertEqual(watch.guesses("x"), ("long",))
        self.assertIs(tells_apart(long, ODD, box), False)
        watch.change_box(Box.caps("ab", 9))
        self.assertEqual(watch.place("x"), 33)


class ErrorsTest(unittest.TestCase):

    def refuse(self, error, call, name=None, value=None):
        watch = filled()
        told = history(watch)
        with self.assertRaises(error) as caught:
            call(watch)
        self.assertIs(type(caught.exception), error)
        if name is not None:
            self.assertIs(getattr(caught.exception, name), value)
        self.assertEqual(history(watch), told)

    def test_no_box(self):
        for value in NO_BOXES + (EVEN,):
            with self.assertRaises(InvalidBox):
                Watch(value)
            self.refuse(InvalidBox, lambda watch: watch.change_box(value))

    def test_other_letters(self):
        for box in (Box("a", ((0,),)), Box("ac", ((1, 0), (1, 1)))):
            self.refuse(InvalidOperation, lambda watch: watch.change_box(box))
        for machine in (Machine("a", ((0,),)), Machine("ac", ((0, 0),))):
            self.refuse(InvalidOperation, lambda watch: watch.add_machine("new", machine))

    def test_refused(self):
        watch = filled()
        told = history(watch)
        for box in (FOUR, Box("ab", ((0, 1), (1, 1))), Box.window("ab", 1)):
            with self.assertRaises(Refused) as caught:
                watch.change_box(box)
            one, two = caught.exception.reason
            self.assertTrue(LATCH(one) == LATCH(two) and box(one) != box(two))
        self.assertEqual(history(watch), told)

    def test_no_names(self):
        for name in NO_NAMES:
            for machine in (EVEN, None, Machine("a", ((0,),))):
                self.refuse(InvalidOperation, lambda watch: watch.add_machine(name, machine))
            self.refuse(InvalidOperation, lambda watch: watch.begin(name))

    def test_add_machine(self):
        for machine in NO_MACHINES:
            if not isinstance(machine, Machine):
                self.refuse(InvalidMachine, lambda watch: watch.add_machine("new", machine))
                self.refuse(InvalidMachine, lambda watch: watch.add_machine("even", machine))
        self.refuse(InvalidOperation, lambda watch: watch.add_machine("even", EVEN))
        self.refuse(InvalidOperation, lambda watch: watch.add_machine("even", Machine("a", ((0,),))))
        filled().add_machine("x", EVEN)
        filled().begin("even")

    def test_begin(self):
        self.refuse(InvalidOperation, lambda watch: watch.begin("x"))

    def test_unknown_names(self):
        for name in NO_NAMES + ("z", "late"):
            for call in (
                lambda watch: watch.drop_machine(name), lambda watch: watch.close(name),
                lambda watch: watch.feed(name, "a"), lambda watch: watch.feed(name, None, times=-1),
                lambda watch: watch.guesses(name), lambda watch: watch.place(name), lambda watch: watch[name],
            ):
                self.refuse(UnknownName, call, "name", name)
        self.refuse(UnknownName, lambda watch: watch.drop_machine("x"), "name", "x")
        self.refuse(UnknownName, lambda watch: watch.close("even"), "name", "even")
        self.refuse(UnknownName, lambda watch: watch.feed("even", "a"), "name", "even")

    def test_feed(self):
        for word in NO_WORDS:
            for times in (1, -1, None):
                self.refuse(InvalidWord, lambda watch: watch.feed("x", word, times=times))
        for times in NO_NUMBERS + (-1, -10 ** 39, True, False):
            for word in ("a", "c"):
                self.refuse(InvalidNumber, lambda watch: watch.feed("x", word, times=times), "value", times)
        for word in ("c", "abz", "z" * 400):
            for times in (0, 1, 10 ** 11):
                self.refuse(InvalidOperation, lambda watch: watch.feed("x", word, times=times))

    def test_by_position_and_by_keyword(self):
        watch = filled()
        for call in (lambda: watch.undo(1), lambda: watch.redo(1), lambda: watch.feed("x", "a", 1)):
            with self.assertRaises(TypeError):
                call()

    def test_many_changes(self):
        watch = Watch(LATCH)
        watch.begin("x")
        for _ in range(30000):
            watch.feed("x", "b")
        self.assertEqual([watch.undo(many=30001), watch.redo(many=30000), len(watch)], [0, 30000, 1])
        twin = watch.twin()
        self.assertIs(twin == watch, True)
        del watch, twin


if __name__ == "__main__":
    unittest.main()
