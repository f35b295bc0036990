"""Tables: for each state, numbered from 0, a tuple of the next states.

The next states stand in the order of the letters, so that a search which takes
them in order meets the states in the order of the first words that lead to them.
"""

from neverturns.base.words import is_between


def is_table(value, width, most):
    """Tell whether the value is a table for so many letters with 1 to most states."""
    if not isinstance(value, tuple) or not 1 <= len(value) <= most:
        return False
    return all([is_line(line, width, len(value)) for line in value])


def is_line(value, width, size):
    """Tell whether the value has one of so many states for each letter."""
    if not isinstance(value, tuple) or len(value) != width:
        return False
    return all([is_between(goal, 0, size - 1) for goal in value])


def is_choice(value, size):
    """Tell whether the value is an ascending tuple of some of so many states."""
    if not isinstance(value, tuple):
        return False
    if not all([is_between(state, 0, size - 1) for state in value]):
        return False
    return all([low < high for low, high in zip(value, value[1:])])


def marked(states):
    """Return a dict with the states as keys, since a tuple is slow to search."""
    return {state: True for state in states}


def led(table, letters, start, word):
    """Return the state to which a word leads from another one."""
    now = start
    for letter in word:
        now = table[now][letters.index(letter)]
    return now


def led_often(table, letters, start, word, times):
    """Return the state to which a word, repeated so often, leads from another one."""
    trail = [start]
    first_at = {start: 0}
    while len(trail) <= times:
        goal = led(table, letters, trail[-1], word)
        if goal in first_at:
            # From here on the trail goes round, so the rest need not be walked.
            back = first_at[goal]
            return trail[back + (times - back) % (len(trail) - back)]
        first_at[goal] = len(trail)
        trail.append(goal)
    return trail[times]


def reached(table):
    """Return the list of the states to which words lead, by their first words."""
    found = [0]
    seen = {0: True}
    at = 0
    while at < len(found):
        for goal in table[found[at]]:
            if goal not in seen:
                seen[goal] = True
                found.append(goal)
        at += 1
    return found


def explored(start, step, width, most):
    """Return the list of all to which steps lead from the start on, and the table of the steps.

    The step leads a thing along a letter, by its column. The things stand in the order of
    the first words that lead to them. If there are more than so many, None is returned;
    there can be any number of them if `most` is None.
    """
    found = [start]
    numbers = {start: 0}
    lines = []
    while len(lines) < len(found):
        line = []
        for column in range(width):
            goal = step(found[len(lines)], column)
            if goal not in numbers:
                if len(found) == most:
                    return None
                numbers[goal] = len(found)
                found.append(goal)
            line.append(numbers[goal])
        lines.append(tuple(line))
    return found, tuple(lines)


def walked(start, step, word):
    """Return to what a word leads the start, by a step that leads a thing along a letter."""
    found = [start]
    numbers = {start: 0}
    known = {}
    now = 0
    # Long words are mostly made of few pieces, so most steps are known.
    for letter in word:
        if (now, letter) not in known:
            goal = step(found[now], letter)
            if goal not in numbers:
                numbers[goal] = len(found)
                found.append(goal)
            known[(now, letter)] = numbers[goal]
        now = known[(now, letter)]
    return found[now]


def lean_table(table):
    """Return the table of the reached states alone, numbered by their first words."""
    states = reached(table)
    numbers = {state: at for at, state in enumerate(states)}
    return tuple([tuple([numbers[goal] for goal in table[state]]) for state in states])


def end_marks(table, ends):
    """Return for each reached state, in order, whether it is an end."""
    marks = marked(ends)
    return [state in marks for state in reached(table)]


def first_word_to(table, letters, states):
    """Return the first word that leads to one of the states, or None."""
    marks = marked(states)
    found = [0]
    came = {0: None}
    at = 0
    while at < len(found):
        state = found[at]
        if state in marks:
            return spelled(came, state)
        for letter, goal in zip(letters, table[state]):
            if goal not in came:
                came[goal] = (state, letter)
                found.append(goal)
        at += 1
    return None


def spelled(came, state):
    """Return the word whose last letters lead to the states from which they came."""
    signs = []
    now = state
    while came[now] is not None:
        now, letter = came[now]
        signs.append(letter)
    return "".join(signs[::-1])


def refined(table, states, parts):
    """Return the parts, split by the parts of the next states, numbered in order."""
    numbers = {}
    finer = {}
    for state in states:
        key = tuple([parts[state]] + [parts[goal] for goal in table[state]])
        if key not in numbers:
            numbers[key] = len(numbers)
        finer[state] = numbers[key]
    return finer


def least_parts(table, ends, states):
    """Return a dict that gives those states one number which no word tells apart."""
    marks = marked(ends)
    parts = {state: state in marks for state in states}
    many = 0
    while many < len(set(list(parts.values()))):
        many = len(set(list(parts.values())))
        parts = refined(table, states, parts)
    return parts


def least_table(table, ends):
    """Return the table and the ends of the least machine with the same words."""
    states = reached(table)
    parts = least_parts(table, ends, states)
    marks = marked(ends)
    lines = []
    least_ends = []
    for state in states:
        # The states come in the order of their parts, so a new part is the next line.
        if parts[state] == len(lines):
            if state in marks:
                least_ends.append(len(lines))
            lines.append(tuple([parts[goal] for goal in table[state]]))
    return tuple(lines), tuple(least_ends)


def beside(one, other):
    """Return the pairs of states to which words lead two tables, and their table."""
    pairs = [(0, 0)]
    numbers = {(0, 0): 0}
    lines = []
    while len(lines) < len(pairs):
        first, second = pairs[len(lines)]
        line = []
        for goal in zip(one[first], other[second]):
            if goal not in numbers:
                numbers[goal] = len(pairs)
                pairs.append(goal)
            line.append(numbers[goal])
        lines.append(tuple(line))
    return pairs, tuple(lines)


def kept_pairs(pairs, ends, other_ends, kept):
    """Return the indices of the pairs that are kept, by which of both is an end."""
    firsts = marked(ends)
    seconds = marked(other_ends)
    return tuple([
        at for at, (first, second) in enumerate(pairs)
        if (first in firsts, second in seconds) in kept
    ])
