"""The last letters of words: what a box that sees nothing else tells apart.

Two words of two machines have the same last letters if these lead some pair of reached
states to a pair of ends. So it is asked how many letters can lead to a pair of states.
"""

from neverturns.errors import InvalidNumber
from neverturns.base.joined import common_word
from neverturns.base.machines import check_machine, check_two, least_machine
from neverturns.base.tables import explored, first_word_to, led, marked, reached
from neverturns.base.words import has_only, is_between, is_word
from neverturns.still.boxes import made_box

MAX_SIZE = 40
# So many places at most are looked at for a box of the last letters.
MOST_PLACES = 20000


def are_ended(one, other, size):
    """Tell whether the box of the last letters, so many, tells two machines apart."""
    check_machine(one)
    check_machine(other)
    if not is_between(size, 0, MAX_SIZE):
        raise InvalidNumber(size)
    least = least_end(one, other)
    return least is not None and least <= size


def least_end(one, other):
    """Return how many last letters are enough to tell two machines apart, or None."""
    if common_word(one, other) is not None:
        return None
    ways = longest_ways(pair_moves(one, other))
    hits = end_pairs(one, other)
    if not all([pair in ways for pair in hits]):
        return None
    return max([0] + [ways[pair] + 1 for pair in hits])


def long_end(one, other):
    """Return a long end of two machines, or None."""
    check_two(one, other)
    moves = pair_moves(one, other)
    ways = longest_ways(moves)
    hits = [pair for pair in end_pairs(one, other) if pair not in ways]
    if not hits:
        return None
    pair, ring, tail = rung(moves, ways, one.letters, hits[0])
    front = first_word_to(one.table, one.letters, pair[:1])
    return front, first_word_to(other.table, other.letters, pair[1:]), ring, tail


def is_long_end(one, other, value):
    """Tell whether the value is a long end of two machines."""
    check_two(one, other)
    if not isinstance(value, tuple) or len(value) != 4:
        return False
    if not all([is_word(word) and has_only(word, one.letters) for word in value]):
        return False
    front, second, ring, tail = value
    return ring != "" and is_rung(one, front, ring, tail) and is_rung(other, second, ring, tail)


def is_rung(machine, front, ring, tail):
    """Tell whether a ring stands behind a front, and leads on by a tail to an end."""
    state = led(machine.table, machine.letters, 0, front)
    if led(machine.table, machine.letters, state, ring) != state:
        return False
    return led(machine.table, machine.letters, state, tail) in machine.ends


def pair_moves(one, other):
    """Return a dict from all pairs of reached states to the next pairs, by letter."""
    seconds = sorted(reached(other.table))
    return {
        (first, second): tuple(zip(one.table[first], other.table[second]))
        for first in sorted(reached(one.table)) for second in seconds
    }


def end_pairs(one, other):
    """Return the list of the pairs of reached ends of two machines."""
    firsts = marked(reached(one.table))
    seconds = marked(reached(other.table))
    return [
        (first, second) for first in one.ends if first in firsts for second in other.ends if second in seconds
    ]


def longest_ways(moves):
    """Return a dict from pairs to the number of letters of the longest words that lead to them.

    The pairs to which words of any length lead are left out.
    """
    open_ways = {pair: 0 for pair in moves}
    for goals in moves.values():
        for goal in goals:
            open_ways[goal] += 1
    ways = {pair: 0 for pair in moves if open_ways[pair] == 0}
    row = list(ways)
    at = 0
    while at < len(row):
        for goal in moves[row[at]]:
            open_ways[goal] -= 1
            # The row ascends by the lengths, so the last way to a pair is the longest one.
            if open_ways[goal] == 0:
                ways[goal] = ways[row[at]] + 1
                row.append(goal)
        at += 1
    return ways


def rung(moves, ways, letters, pair):
    """Return a pair, a word that leads it to itself, and one that leads it to the given pair."""
    came = {}
    for start, goals in moves.items():
        if start not in ways:
            for letter, goal in zip(letters, goals):
                came.setdefault(goal, (start, letter))
    signs = []
    first_at = {}
    now = pair
    while now not in first_at:
        first_at[now] = len(signs)
        now, letter = came[now]
        signs.append(letter)
    word = "".join(signs[::-1])
    size = len(signs) - first_at[now]
    return now, word[:size], word[size:]


def last_letters_box(machine, size):
    """Return a box that leads words of a machine, and words with other last letters, so many, to unlike places.

    A thing that is explored is the state of a word that has fewer letters, or None, and
    for each number of its last letters the states to which these lead from any reached one.
    None is returned if there are too many of them.
    """
    whole = tuple(sorted(reached(machine.table)))

    def step(thing, column):
        start, rows = thing
        goals = tuple([
            tuple(sorted({machine.table[place][column] for place in row})) for row in (whole,) + rows[:size - 1]
        ])
        if len(goals) == size:
            return None, goals
        return machine.table[start][column], goals

    found = explored((0, ()), step, len(machine.letters), MOST_PLACES)
    if found is None:
        return None
    things, table = found
    ends = marked(machine.ends)
    lasts = [groups[-1] if short is None else (short,) for short, groups in things]
    last = tuple([at for at, group in enumerate(lasts) if any([state in ends for state in group])])
    return made_box(machine.letters, least_machine(machine.letters, table, last).table)
