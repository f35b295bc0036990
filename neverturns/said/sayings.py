"""Sayings, which tell of a word by what was ahead where it ends."""

from neverturns.errors import InvalidOperation, TooMany
from neverturns.base.machines import least_machine
from neverturns.base.tables import explored, marked, refined, walked
from neverturns.base.words import check_word, is_between, is_word
from neverturns.row.resets import check_letters

MOST_TRUTHS = 1000
# For each kind of steps but letters, how many earlier steps it has.
SOURCES = {"not": 1, "ahead": 1, "either": 2, "since": 2}


def is_saying(value):
    """Tell whether the value is a saying."""
    if not isinstance(value, tuple) or value == ():
        return False
    return all([is_saying_step(step, at) for at, step in enumerate(value)])


def truths(saying, word):
    """Return the tuple of the truths of a saying behind a word."""
    check_saying(saying)
    check_word(word)
    return walked(first_truths(saying), lambda now, letter: next_truths(saying, now, letter), word)


def holds(saying, word):
    """Tell whether a saying holds behind a word."""
    return truths(saying, word)[-1]


def denied(saying):
    """Return a saying that holds just where a saying does not."""
    check_saying(saying)
    return saying + (("not", len(saying) - 1),)


def either(one, other):
    """Return a saying that holds where at least one of both does."""
    check_saying(one)
    check_saying(other)
    return one + shifted(other, len(one)) + (("either", len(one) - 1, len(one) + len(other) - 1),)


def both(one, other):
    """Return a saying that holds where both do."""
    return denied(either(denied(one), denied(other)))


def saying_machine(letters, saying):
    """Return the least machine with the words of a saying."""
    check_letters(letters)
    check_saying(saying)
    table, ends = few_truths(letters, saying)
    return least_machine(letters, table, ends)


def parting_word(letters, one, other):
    """Return the first word behind which just one of both sayings holds, or None."""
    check_letters(letters)
    check_saying(one)
    check_saying(other)
    table, ends = few_truths(letters, one)
    second, second_ends = few_truths(letters, other)
    size = len(table)
    table = table + tuple([tuple([size + goal for goal in line]) for line in second])
    ends = ends + tuple([size + end for end in second_ends])
    return first_parting(letters, table, ends, size)


def is_saying_step(value, at):
    """Tell whether the value is a step that can stand behind so many others."""
    if not isinstance(value, tuple) or len(value) < 2 or not isinstance(value[0], str):
        return False
    if value[0] == "letter":
        return len(value) == 2 and is_word(value[1]) and len(value[1]) == 1
    if len(value) != SOURCES.get(value[0], 0) + 1:
        return False
    return all([is_between(source, 0, at - 1) for source in value[1:]])


def check_saying(value):
    """Raise InvalidOperation if the value is no saying."""
    if not is_saying(value):
        raise InvalidOperation("this is no saying")


def first_truths(saying):
    """Return the truths behind the empty word."""
    return next_truths(saying, (False,) * len(saying), "")


def next_truths(saying, before, letter):
    """Return the truths behind a letter, by those ahead of it."""
    now = []
    for at, step in enumerate(saying):
        kind = step[0]
        if kind == "letter":
            now.append(step[1] == letter)
        elif kind == "not":
            now.append(not now[step[1]])
        elif kind == "either":
            now.append(now[step[1]] or now[step[2]])
        elif kind == "ahead":
            now.append(before[step[1]])
        else:
            now.append(now[step[2]] or now[step[1]] and before[at])
    return tuple(now)


def shifted(saying, size):
    """Return the steps of a saying as they are behind so many others."""
    return tuple([
        step if step[0] == "letter" else step[:1] + tuple([source + size for source in step[1:]]) for step in saying
    ])


def truth_table(letters, saying):
    """Return a table that leads truths to truths, and where the saying holds; None if it is not small."""
    found = explored(
        first_truths(saying), lambda now, column: next_truths(saying, now, letters[column]), len(letters), MOST_TRUTHS
    )
    if found is None:
        return None
    return found[1], tuple([at for at, now in enumerate(found[0]) if now[-1]])


def few_truths(letters, saying):
    """Return the table of truths: TooMany if the saying is not small."""
    found = truth_table(letters, saying)
    if found is None:
        raise TooMany(MOST_TRUTHS)
    return found


def first_parting(letters, table, ends, other):
    """Return the first word that leads just one of the state 0 and another one to an end, or None.

    Words of at most so many letters tell those states apart which are in unlike parts
    after so many refinings. This looks at each state, but not at all pairs of states.
    """
    marks = marked(ends)
    states = list(range(len(table)))
    trail = [{state: state in marks for state in states}]
    while trail[-1][0] == trail[-1][other]:
        finer = refined(table, states, trail[-1])
        if len(set(list(finer.values()))) == len(set(list(trail[-1].values()))):
            return None
        trail.append(finer)
    return spelled_apart(letters, table, trail, 0, other)


def spelled_apart(letters, table, trail, one, other):
    """Return the first of the shortest words that tell two states apart, by their parts."""
    signs = []
    for parts in trail[-2::-1]:
        at = [parts[first] != parts[second] for first, second in zip(table[one], table[other])].index(True)
        signs.append(letters[at])
        one = table[one][at]
        other = table[other][at]
    return "".join(signs)
