"""Boxes, in which nothing goes round."""

from neverturns.errors import GoesRound, InvalidBox, InvalidNumber, InvalidOperation
from neverturns.base.machines import MAX_TIMES, check_same_letters, made_machine
from neverturns.base.tables import beside, first_word_to, is_choice, is_table, lean_table, led, led_often
from neverturns.base.words import all_words, check_only, check_word, is_between, is_letters
from neverturns.still.actions import action_words, acted, repeats, turn_among

MAX_PLACES = 4
# So many actions have four places at most.
ALL_ACTIONS = 4 ** 4
LONGEST_WINDOW = 4
GREATEST_CAP = 9


class Box:
    """A set of letters, and a table of next places that has no turns."""

    def __init__(self, letters, table):
        if not is_letters(letters):
            raise InvalidBox("this is no set of letters")
        if not is_table(table, len(letters), MAX_PLACES):
            raise InvalidBox("this is no table of one to four places")
        turn = turn_among(action_words(table, letters, ALL_ACTIONS))
        if turn is not None:
            raise GoesRound(turn)
        self._letters = letters
        self._table = table

    @classmethod
    def window(cls, letters, size):
        """Return the box that sees the last letters, so many."""
        if not is_letters(letters):
            raise InvalidOperation("this is no set of letters")
        if not is_between(size, 0, LONGEST_WINDOW):
            raise InvalidNumber(size)
        return made_box(letters, window_table(letters, size))

    @classmethod
    def caps(cls, letters, most):
        """Return the box that counts each letter up to a greatest number."""
        if not is_letters(letters):
            raise InvalidOperation("this is no set of letters")
        if not is_between(most, 0, GREATEST_CAP):
            raise InvalidNumber(most)
        return made_box(letters, caps_table(letters, most))

    @property
    def letters(self):
        """The set of letters."""
        return self._letters

    @property
    def table(self):
        """The tuple of the next places for each place."""
        return self._table

    def __call__(self, word):
        self._check(word)
        return led(self._table, self._letters, 0, word)

    def place(self, word, start, *, times=1):
        """Return the place to which a word, repeated so often, leads from another one."""
        check_word(word)
        check_place(self, start)
        if not is_between(times, 0, MAX_TIMES):
            raise InvalidNumber(times)
        check_only(word, self._letters)
        return led_often(self._table, self._letters, start, word, times)

    def action(self, word):
        """Return the tuple of the places to which a word leads from each place."""
        self._check(word)
        return acted(self._table, self._letters, word)

    def lag(self, word):
        """Return how often a word is repeated at least until one more changes nothing."""
        self._check(word)
        return repeats(acted(self._table, self._letters, word))[1]

    def first_word(self, place):
        """Return the first word that leads to a place, or None."""
        check_place(self, place)
        return first_word_to(self._table, self._letters, (place,))

    def lean(self):
        """Return the box of the places to which words lead, numbered by their first words."""
        return made_box(self._letters, lean_table(self._table))

    def machine(self, places):
        """Return the machine with the table of the box, and these places as ends."""
        if not is_choice(places, len(self._table)):
            raise InvalidOperation("these are no ascending places")
        return made_machine(self._letters, self._table, places)

    def __and__(self, other):
        check_box(other)
        check_same_letters(self, other)
        return made_box(self._letters, beside(self._table, other._table)[1])

    def __len__(self):
        return len(self._table)

    def __eq__(self, other):
        if not isinstance(other, Box):
            return False
        return (self._letters, self._table) == (other._letters, other._table)

    def __str__(self):
        return f"box of {len(self._table)} places for {self._letters}"

    def _check(self, word):
        """Raise the error for a value that is no word of the letters."""
        check_word(word)
        check_only(word, self._letters)


def made_box(letters, table):
    """Return a box that can have more places than those that are passed."""
    box = Box(letters, ((0,) * len(letters),))
    box._table = table
    return box


def window_table(letters, size):
    """Return the table whose places are all words of at most so many letters."""
    words = list(all_words(letters, size))
    numbers = {word: at for at, word in enumerate(words)}
    return tuple([tuple([numbers[last_letters(word + letter, size)] for letter in letters]) for word in words])


def last_letters(word, size):
    """Return the last letters of a word, or all of them if there are fewer."""
    return word[max(0, len(word) - size):]


def caps_table(letters, most):
    """Return the table whose places count the first letter, and further on the second one."""
    size = most + 1
    lines = []
    for second in range(size if len(letters) == 2 else 1):
        for first in range(size):
            goals = (min(first + 1, most) + second * size, first + min(second + 1, most) * size)
            lines.append(goals[:len(letters)])
    return tuple(lines)


def check_box(value):
    """Raise InvalidBox if the value is no box."""
    if not isinstance(value, Box):
        raise InvalidBox("this is no box")


def check_place(box, value):
    """Raise InvalidNumber if the value is no place of the box."""
    if not is_between(value, 0, len(box) - 1):
        raise InvalidNumber(value)
