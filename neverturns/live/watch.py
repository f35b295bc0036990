"""A watch: what a box knows of words that come piece by piece."""

from neverturns.errors import InvalidNumber, InvalidOperation, NothingToUndo, Refused, UnknownName
from neverturns.base.machines import check_machine, check_same_letters
from neverturns.base.tables import beside, first_word_to, led_often
from neverturns.base.words import check_only, check_word, is_natural, is_word
from neverturns.still.boxes import check_box
from neverturns.still.sights import seen_places, shared_place

LONGEST_NAME = 8


class State:
    """What a watch holds at a time, and the state ahead of the last change.

    States never change, so that watches and blocks can share them.
    """

    def __init__(self, box, machines, places, before):
        self.held_box = box
        self.held_machines = {name: machines[name] for name in sorted(list(machines))}
        self.held_places = {name: places[name] for name in sorted(list(places))}
        self.names = tuple(list(self.held_places))
        self.before = before
        self.many = 0 if before is None else before.many + 1


class Undone:
    """A state that was taken back, and those that were taken back ahead of it."""

    def __init__(self, state, rest):
        self.state = state
        self.rest = rest
        self.many = 1 if rest is None else rest.many + 1


class Attempt:
    """A block behind which a watch is as it was ahead of it."""

    def __init__(self, watch):
        self.watch = watch
        self.state = None
        self.undone = None

    def __enter__(self):
        self.state = self.watch._state
        self.undone = self.watch._undone
        return self.watch

    def __exit__(self, kind, value, trace):
        watch = self.watch
        watch._state = self.state
        watch._undone = self.undone


class Watch:
    """A box, machines under names, and accounts into which words are fed piece by piece."""

    def __init__(self, box):
        check_box(box)
        self._state = State(box, {}, {}, None)
        self._undone = None

    @property
    def box(self):
        """The box."""
        return self._state.held_box

    @property
    def machines(self):
        """The dict from names to machines."""
        return {name: machine for name, machine in self._state.held_machines.items()}

    @property
    def places(self):
        """The dict from the names of accounts to places."""
        return {name: place for name, place in self._state.held_places.items()}

    @property
    def doubts(self):
        """The ascending tuple of the pairs of names of machines that the box does not tell apart."""
        return doubts_of(self._state.held_box, self._state.held_machines)

    def add_machine(self, name, machine):
        """Add a machine, and return the names of those ahead of it that the box does not tell from it."""
        check_name(name)
        check_machine(machine)
        state = self._state
        if name in state.held_machines:
            raise InvalidOperation("a machine has this name")
        check_same_letters(machine, state.held_box)
        self._change(state.held_box, {**state.held_machines, name: machine}, state.held_places)
        return tuple([
            other for other in state.held_machines
            if shared_place(state.held_machines[other], machine, state.held_box) is not None
        ])

    def drop_machine(self, name):
        """Take a machine away."""
        state = self._state
        check_known(name, state.held_machines)
        self._change(state.held_box, without(state.held_machines, name), state.held_places)

    def begin(self, name):
        """Begin an account at the place 0."""
        check_name(name)
        state = self._state
        if name in state.held_places:
            raise InvalidOperation("an account has this name")
        self._change(state.held_box, state.held_machines, {**state.held_places, name: 0})

    def close(self, name):
        """Take an account away, and return its guesses."""
        names = self.guesses(name)
        state = self._state
        self._change(state.held_box, state.held_machines, without(state.held_places, name))
        return names

    def feed(self, name, word, *, times=1):
        """Lead an account along a word, so many times, and return the new place."""
        start = self.place(name)
        check_word(word)
        if not is_natural(times):
            raise InvalidNumber(times)
        state = self._state
        check_only(word, state.held_box.letters)
        goal = led_often(state.held_box.table, state.held_box.letters, start, word, times)
        self._change(state.held_box, state.held_machines, {**state.held_places, name: goal})
        return goal

    def change_box(self, box):
        """Have another box from now on."""
        check_box(box)
        state = self._state
        check_same_letters(state.held_box, box)
        goals = goals_in(state.held_box, box)
        self._change(box, state.held_machines, {name: goals[state.held_places[name]] for name in state.names})

    def guesses(self, name):
        """Return the ascending tuple of the names of the machines with a word that leads to an account's place."""
        place = self.place(name)
        state = self._state
        return tuple([
            other for other in state.held_machines
            if place in seen_places(state.held_machines[other], state.held_box)
        ])

    def place(self, name):
        """Return the place of an account."""
        check_known(name, self._state.held_places)
        return self._state.held_places[name]

    def undo(self, *, many=1):
        """Take back so many changes, and return how many can then be taken back."""
        check_many(many, self._state.many)
        for _ in range(many):
            self._undone = Undone(self._state, self._undone)
            self._state = self._state.before
        return self._state.many

    def redo(self, *, many=1):
        """Do so many changes again, and return how many can then be taken back."""
        check_many(many, 0 if self._undone is None else self._undone.many)
        for _ in range(many):
            self._state = self._undone.state
            self._undone = self._undone.rest
        return self._state.many

    def attempt(self):
        """Return a block behind which the watch is as it was when the block was entered."""
        return Attempt(self)

    def during(self, call):
        """Return what a call returns of the watch, in such a block."""
        with self.attempt() as same:
            return call(same)

    def twin(self):
        """Return an independent equal watch."""
        made = Watch(self._state.held_box)
        made._state = self._state
        made._undone = self._undone
        return made

    def __getitem__(self, at):
        check_known(at, self._state.held_machines)
        return self._state.held_machines[at]

    def __contains__(self, x):
        return is_name(x) and x in self._state.held_machines

    def __iter__(self):
        return iter(self._state.names)

    def __len__(self):
        return len(self._state.names)

    def __eq__(self, other):
        if not isinstance(other, Watch):
            return False
        if self._state.held_box != other._state.held_box or self._state.held_places != other._state.held_places:
            return False
        return self._state.held_machines == other._state.held_machines

    def __str__(self):
        return ", ".join([
            f"watch of {len(self._state.held_machines)} machines", f"{len(self._state.names)} accounts",
            f"{len(self._state.held_box)} places",
        ])

    def _change(self, box, machines, places):
        """Change to another state; what was taken back cannot be done again any more."""
        self._state = State(box, machines, places, self._state)
        self._undone = None


def is_name(value):
    """Tell whether the value is a name."""
    return is_word(value) and 1 <= len(value) <= LONGEST_NAME


def check_name(value):
    """Raise InvalidOperation if the value is no name."""
    if not is_name(value):
        raise InvalidOperation("this is no name")


def check_known(value, entries):
    """Raise UnknownName if the value is none of the names of some entries."""
    if not is_name(value) or value not in entries:
        raise UnknownName(value)


def check_many(value, most):
    """Raise the error for what is no number, or more than there are changes."""
    if not is_natural(value):
        raise InvalidNumber(value)
    if value > most:
        raise NothingToUndo(value)


def without(entries, name):
    """Return a dict of the entries without one name."""
    return {other: entries[other] for other in entries if other != name}


def doubts_of(box, machines):
    """Return the ascending tuple of the pairs of names of machines that the box does not tell apart."""
    return tuple([
        (name, other) for name in machines for other in machines
        if name < other and shared_place(machines[name], machines[other], box) is not None
    ])


def goals_in(box, other):
    """Return the dict from the places of a box to those of another one: Refused if there is none."""
    pairs, table = beside(box.table, other.table)
    goals = {}
    numbers = {}
    for at, (first, second) in enumerate(pairs):
        if first not in goals:
            goals[first] = second
            numbers[first] = at
        elif goals[first] != second:
            word = first_word_to(table, box.letters, (numbers[first],))
            raise Refused((word, first_word_to(table, box.letters, (at,))))
    return goals
