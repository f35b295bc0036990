"""Machines, which read words letter by letter."""

from neverturns.errors import InvalidMachine, InvalidNumber, InvalidOperation
from neverturns.base.tables import beside, end_marks, first_word_to, is_choice, is_table, kept_pairs
from neverturns.base.tables import least_table, led, led_often, marked
from neverturns.base.words import all_words, check_only, check_word, has_only, is_between, is_letters, is_word

MAX_STATES = 4
MAX_TIMES = 10 ** 11

# For an operator: whether a word is one of the first and of the second machine.
ONE_OR_BOTH = ((True, False), (False, True), (True, True))
BOTH = ((True, True),)
FIRST_ALONE = ((True, False),)


class Machine:
    """A set of letters, a table of next states, and ends."""

    def __init__(self, letters, table, ends=()):
        if not is_letters(letters):
            raise InvalidMachine("this is no set of letters")
        if not is_table(table, len(letters), MAX_STATES):
            raise InvalidMachine("this is no table of one to four states")
        if not is_choice(ends, len(table)):
            raise InvalidMachine("these are no ascending states")
        self._letters = letters
        self._table = table
        self._ends = ends

    @property
    def letters(self):
        """The set of letters."""
        return self._letters

    @property
    def table(self):
        """The tuple of the next states for each state."""
        return self._table

    @property
    def ends(self):
        """The ascending tuple of the ends."""
        return self._ends

    @property
    def is_empty(self):
        """Whether the machine has no words."""
        return not any(end_marks(self._table, self._ends))

    @property
    def is_full(self):
        """Whether all words of its letters are its words."""
        return all(end_marks(self._table, self._ends))

    def after(self, word, *, times=1):
        """Return the state to which the word, repeated so often, leads."""
        check_word(word)
        if not is_between(times, 0, MAX_TIMES):
            raise InvalidNumber(times)
        check_only(word, self._letters)
        return led_often(self._table, self._letters, 0, word, times)

    def words(self, most):
        """Yield its words of at most so many letters, the first one first."""
        for word in all_words(self._letters, most):
            if word in self:
                yield word

    def first_word(self):
        """Return the first of its words, or None."""
        return first_word_to(self._table, self._letters, self._ends)

    def least(self):
        """Return the least machine with the same words."""
        return least_machine(self._letters, self._table, self._ends)

    def __invert__(self):
        marks = marked(self._ends)
        others = tuple([state for state in range(len(self._table)) if state not in marks])
        return least_machine(self._letters, self._table, others)

    def __or__(self, other):
        return combined(self, other, ONE_OR_BOTH)

    def __and__(self, other):
        return combined(self, other, BOTH)

    def __sub__(self, other):
        return combined(self, other, FIRST_ALONE)

    def __contains__(self, x):
        if not is_word(x) or not has_only(x, self._letters):
            return False
        return led(self._table, self._letters, 0, x) in self._ends

    def __len__(self):
        return len(self._table)

    def __eq__(self, other):
        if not isinstance(other, Machine):
            return False
        return (self._letters, self._table, self._ends) == (other._letters, other._table, other._ends)

    def __str__(self):
        return f"machine of {len(self._table)} states, {len(self._ends)} ends"


def made_machine(letters, table, ends):
    """Return a machine that can have more states than those that are passed."""
    machine = Machine(letters, ((0,) * len(letters),))
    machine._table = table
    machine._ends = ends
    return machine


def least_machine(letters, table, ends):
    """Return the least machine with the words that lead to the ends."""
    lines, least_ends = least_table(table, ends)
    return made_machine(letters, lines, least_ends)


def combined(one, other, kept):
    """Return the least machine of the words that are kept, by which of both has them."""
    check_machine(other)
    check_same_letters(one, other)
    pairs, table = beside(one._table, other._table)
    return least_machine(one._letters, table, kept_pairs(pairs, one._ends, other._ends, kept))


def check_machine(value):
    """Raise InvalidMachine if the value is no machine."""
    if not isinstance(value, Machine):
        raise InvalidMachine("this is no machine")


def check_same_letters(one, other):
    """Raise InvalidOperation if the letters of two machines or boxes are not equal."""
    if one.letters != other.letters:
        raise InvalidOperation("the sets of letters are not equal")


def check_two(one, other):
    """Raise the error for two values that are no machines with the same letters."""
    check_machine(one)
    check_machine(other)
    check_same_letters(one, other)
