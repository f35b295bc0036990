"""The actions of words on a machine, and the turns of a machine."""

from neverturns.errors import InvalidOperation, TooMany
from neverturns.base.machines import check_machine
from neverturns.base.tables import is_line
from neverturns.base.words import check_only, check_word, has_only, is_between, is_word
from neverturns.still.actions import action_words, acted, comes_back, repeats, turn_among

MAX_ACTIONS = 60


def actions(machine):
    """Return the tuple of all actions, in the order of the first words that have them."""
    check_machine(machine)
    return tuple(list(few_actions(machine)))


def word_of(machine, action):
    """Return the first word with an action, or None."""
    check_machine(machine)
    if not is_line(action, len(machine), len(machine)):
        raise InvalidOperation("this is no tuple with a state for each state")
    return few_actions(machine).get(action)


def settles(machine, word):
    """Return from which number on a word, repeated, goes round, and after how many more."""
    check_machine(machine)
    check_word(word)
    check_only(word, machine.letters)
    few_actions(machine)
    trail, back = repeats(acted(machine.table, machine.letters, word))
    return back, len(trail) - back


def first_turn(machine):
    """Return the first word of all turns, and the least state with which it is one; or None."""
    check_machine(machine)
    return turn_among(few_actions(machine))


def is_turn(machine, value):
    """Tell whether the value is a turn, a pair of a word and a state."""
    check_machine(machine)
    few_actions(machine)
    return is_turn_of(machine, value)


def is_turn_of(machine, value):
    """Tell whether the value is a turn of a machine with any number of actions."""
    if not isinstance(value, tuple) or len(value) != 2:
        return False
    word, state = value
    if not is_word(word) or not has_only(word, machine.letters):
        return False
    if not is_between(state, 0, len(machine) - 1):
        return False
    action = acted(machine.table, machine.letters, word)
    return action[state] != state and comes_back(action, state)


def is_still(machine):
    """Tell whether the machine has no turn."""
    return first_turn(machine) is None


def is_calm(machine):
    """Tell whether some machine with the same words has no turn."""
    check_machine(machine)
    few_actions(machine)
    return is_still(machine.least())


def few_actions(machine):
    """Return a dict from the actions to their first words: TooMany if they are too many."""
    words = action_words(machine.table, machine.letters, MAX_ACTIONS)
    if len(words) > MAX_ACTIONS:
        raise TooMany(MAX_ACTIONS)
    return words
