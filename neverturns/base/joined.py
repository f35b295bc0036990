"""Machines made of others, and words that tell two machines apart.

Most of them are made of moves: for each state and letter some next states, perhaps
none. Words lead along moves to groups of states, which are the states of a table.
"""

from neverturns.errors import InvalidOperation
from neverturns.base.machines import check_machine, check_two, least_machine
from neverturns.base.tables import beside, explored, first_word_to, kept_pairs, led, marked
from neverturns.base.words import check_only, check_word, has_only, is_letters, is_word

MOST_WORDS = 6
LONGEST_WORD = 6


def of_words(letters, words):
    """Return the machine with just these words."""
    if not is_letters(letters):
        raise InvalidOperation("this is no set of letters")
    if not are_short_words(words, letters):
        raise InvalidOperation("these are no six short words of the letters")
    heads = sorted({word[:size] for word in ("",) + words for size in range(len(word) + 1)})
    numbers = {head: at for at, head in enumerate(heads)}
    moves = []
    for head in heads:
        longer = [head + letter for letter in letters]
        moves.append(tuple([(numbers[word],) if word in numbers else () for word in longer]))
    return machine_of_moves(letters, moves, [0], [numbers[word] for word in words])


def are_short_words(value, letters):
    """Tell whether the value is a tuple of a few short words of the letters."""
    if not isinstance(value, tuple) or len(value) > MOST_WORDS:
        return False
    return all([is_word(word) and len(word) <= LONGEST_WORD and has_only(word, letters) for word in value])


def chained(one, other):
    """Return the machine of the words of the one with a word of the other behind them."""
    check_two(one, other)
    size = len(one)
    ends = marked(one.ends)
    moves = [tuple([(goal, size) if goal in ends else (goal,) for goal in line]) for line in one.table]
    moves = moves + [tuple([(size + goal,) for goal in line]) for line in other.table]
    starts = [0, size] if 0 in ends else [0]
    return machine_of_moves(one.letters, moves, starts, [size + state for state in other.ends])


def repeated(machine):
    """Return the machine of any number of words of a machine, one behind another."""
    check_machine(machine)
    ends = marked(machine.ends)
    moves = [tuple([(0, goal) if goal in ends else (goal,) for goal in line]) for line in machine.table]
    # A state of its own at the start has the empty word, without making the state 0 an end.
    start = len(machine)
    return machine_of_moves(machine.letters, moves + [moves[0]], [start], [start] + list(machine.ends))


def mirrored(machine):
    """Return the machine with the words of a machine, each read from behind."""
    check_machine(machine)
    came = [[[] for _ in machine.letters] for _ in machine.table]
    for state, line in enumerate(machine.table):
        for column, goal in enumerate(line):
            came[goal][column].append(state)
    moves = [tuple([tuple(states) for states in line]) for line in came]
    return machine_of_moves(machine.letters, moves, machine.ends, [0])


def behind(machine, word):
    """Return the machine of all words that make a word of a machine behind this word."""
    check_machine(machine)
    check_word(word)
    check_only(word, machine.letters)
    start = led(machine.table, machine.letters, 0, word)
    moves = [tuple([(goal,) for goal in line]) for line in machine.table]
    return machine_of_moves(machine.letters, moves, [start], machine.ends)


def machine_of_moves(letters, moves, starts, ends):
    """Return the least machine of the words that lead from a start to an end."""

    def step(group, column):
        return tuple(sorted({goal for start in group for goal in moves[start][column]}))

    groups, table = explored(tuple(sorted(set(starts))), step, len(letters), None)
    marks = marked(ends)
    last = [at for at, states in enumerate(groups) if any([state in marks for state in states])]
    return least_machine(letters, table, tuple(last))


def renamed(machine, letters):
    """Return the machine with other letters."""
    check_machine(machine)
    if not is_renaming(letters, machine.letters):
        raise InvalidOperation("this does not give different letters to just the letters")
    olds = {letters[old]: old for old in machine.letters}
    news = "".join(sorted(list(olds)))
    order = [machine.letters.index(olds[new]) for new in news]
    table = tuple([tuple([line[column] for column in order]) for line in machine.table])
    return least_machine(news, table, machine.ends)


def is_renaming(value, letters):
    """Tell whether the value is a dict from just the letters to different letters."""
    if not isinstance(value, dict) or len(value) != len(letters):
        return False
    if not all([letter in value for letter in letters]):
        return False
    news = [value[letter] for letter in letters]
    if not all([is_word(new) and len(new) == 1 for new in news]):
        return False
    return len(set(news)) == len(news)


def common_word(one, other):
    """Return the first word that both machines have, or None."""
    check_two(one, other)
    return first_word_with(one, other, ((True, True),))


def first_difference(one, other):
    """Return the first word that just one of both machines has, or None."""
    check_two(one, other)
    return first_word_with(one, other, ((True, False), (False, True)))


def are_same(one, other):
    """Tell whether both machines have the same words."""
    return first_difference(one, other) is None


def first_word_with(one, other, kept):
    """Return the first word that is kept, by which of both machines has it, or None."""
    pairs, table = beside(one.table, other.table)
    return first_word_to(table, one.letters, kept_pairs(pairs, one.ends, other.ends, kept))
