"""Rows of resets: levels, each of which gets a value by those ahead of it, or keeps its own."""

from neverturns.errors import InvalidNumber, InvalidOperation, TooMany
from neverturns.base.machines import MAX_TIMES
from neverturns.base.tables import explored, walked
from neverturns.base.words import check_only, check_word, is_between, is_letters
from neverturns.still.boxes import check_box, made_box

MAX_VALUES = 12
MAX_STANDS = 1000


def is_row(letters, value):
    """Tell whether the value is a row of resets for a set of letters."""
    check_letters(letters)
    return is_row_for(letters, value)


def stand_after(letters, row, word, *, times=1):
    """Return the stand to which a word, repeated so often, leads from the first stand."""
    check_row(letters, row)
    check_word(word)
    if not is_between(times, 0, MAX_TIMES):
        raise InvalidNumber(times)
    check_only(word, letters)
    now = first_stand(row)
    # A word that is repeated more often than there are levels changes nothing more.
    for _ in range(min(times, len(row) + 1)):
        now = walked(now, lambda stand, letter: led_stand(row, stand, letters.index(letter)), word)
    return now


def stands(letters, row):
    """Return the tuple of the reached stands in the order of the first words that lead to them."""
    check_row(letters, row)
    return tuple(few_stands(letters, row)[0])


def row_box(letters, row):
    """Return the box with a place for each reached stand."""
    check_row(letters, row)
    return made_box(letters, few_stands(letters, row)[1])


def rows_beside(letters, one, other):
    """Return the row with the levels of the one, and behind them those of the other one."""
    check_row(letters, one)
    check_row(letters, other)
    heads = [()]
    for level in one:
        heads = [head + (value,) for head in heads for value in range(level[0])]
        if len(heads) > MAX_STANDS:
            raise TooMany(MAX_STANDS)
    return tuple([behind_heads([()], level) for level in one] + [behind_heads(heads, level) for level in other])


def is_row_paper(box, value):
    """Tell whether the value is a row paper of a box."""
    check_box(box)
    if not isinstance(value, tuple) or len(value) != 2:
        return False
    row, places = value
    if not is_row_for(box.letters, row) or not isinstance(places, tuple) or places == ():
        return False
    if not all([is_between(place, 0, len(box) - 1) for place in places]) or places[0] != 0:
        return False
    found = row_table(box.letters, row, len(places))
    if found is None:
        return False
    goals = [tuple([places[at] for at in line]) for line in found[1]]
    return goals == [box.table[place] for place in places]


def check_letters(value):
    """Raise InvalidOperation if the value is no set of letters."""
    if not is_letters(value):
        raise InvalidOperation("this is no set of letters")


def check_row(letters, value):
    """Raise InvalidOperation if there is no set of letters, or the value is no row for it."""
    check_letters(letters)
    if not is_row_for(letters, value):
        raise InvalidOperation("this is no row of resets for the letters")


def is_row_for(letters, value):
    """Tell whether the value is a row for a set of letters."""
    if not isinstance(value, tuple):
        return False
    sizes = []
    for level in value:
        if not is_level(level, len(letters), sizes):
            return False
        sizes.append(level[0])
    return True


def is_level(value, width, sizes):
    """Tell whether the value is a level behind levels with so many values, with a rule for each letter."""
    if not isinstance(value, tuple) or len(value) != 3:
        return False
    values, first, rules = value
    if not is_between(values, 2, MAX_VALUES) or not is_between(first, 0, values - 1):
        return False
    if not isinstance(rules, tuple) or len(rules) != width:
        return False
    return all([is_rule(rule, values, sizes) for rule in rules])


def is_rule(value, values, sizes):
    """Tell whether the value is a dict from tuples of values ahead to values of a level."""
    if not isinstance(value, dict):
        return False
    return all([is_head(head, sizes) and is_between(value[head], 0, values - 1) for head in value])


def is_head(value, sizes):
    """Tell whether the value is a tuple with a value of each level ahead."""
    if not isinstance(value, tuple) or len(value) != len(sizes):
        return False
    return all([is_between(number, 0, size - 1) for number, size in zip(value, sizes)])


def first_stand(row):
    """Return the first stand of a row."""
    return tuple([level[1] for level in row])


def led_stand(row, stand, column):
    """Return the stand to which a letter, by its column, leads a stand."""
    return tuple([level[2][column].get(stand[:at], stand[at]) for at, level in enumerate(row)])


def row_table(letters, row, most):
    """Return the list of the reached stands and their table, or None if they are more than so many."""
    return explored(first_stand(row), lambda stand, column: led_stand(row, stand, column), len(letters), most)


def few_stands(letters, row):
    """Return the list of the reached stands and their table: TooMany if they are too many."""
    found = row_table(letters, row, MAX_STANDS)
    if found is None:
        raise TooMany(MAX_STANDS)
    return found


def behind_heads(heads, level):
    """Return a level that does the same whichever of some heads, all of one length, stands ahead."""
    values, first, rules = level
    return values, first, tuple([
        {head + key: rule[key] for head in heads for key in sorted(list(rule))} for rule in rules
    ])
