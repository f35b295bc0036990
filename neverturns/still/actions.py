"""Actions: for each state of a table the state to which a word leads from it."""

from neverturns.base.tables import walked


def composed(first, second):
    """Return the action of two words, one behind the other."""
    return tuple([second[state] for state in first])


def unmoved(table):
    """Return the action of the empty word."""
    return tuple(range(len(table)))


def led_on(table, states, column):
    """Return the states to which a letter, by its column, leads from some states."""
    return tuple([table[state][column] for state in states])


def acted(table, letters, word):
    """Return the action of a word."""
    return walked(unmoved(table), lambda action, letter: led_on(table, action, letters.index(letter)), word)


def action_words(table, letters, most):
    """Return a dict from the actions to their first words, in the order of these.

    If there are more than so many, it has more than so many, but not all of them.
    """
    words = {unmoved(table): ""}
    found = [unmoved(table)]
    at = 0
    while at < len(found) <= most:
        for column, letter in enumerate(letters):
            goal = led_on(table, found[at], column)
            if goal not in words:
                words[goal] = words[found[at]] + letter
                found.append(goal)
        at += 1
    return words


def repeats(action):
    """Return the actions of a word repeated 0 times and more, and where they begin again."""
    trail = [tuple(range(len(action)))]
    first_at = {trail[0]: 0}
    while True:
        goal = composed(trail[-1], action)
        if goal in first_at:
            return trail, first_at[goal]
        first_at[goal] = len(trail)
        trail.append(goal)


def turned_state(action):
    """Return the least state that the action leads round to itself, or None."""
    for state, goal in enumerate(action):
        if goal != state and comes_back(action, state):
            return state
    return None


def comes_back(action, state):
    """Tell whether the action, repeated at least once, leads the state to itself."""
    now = state
    for _ in action:
        now = action[now]
        if now == state:
            return True
    return False


def turn_among(words):
    """Return the first word of the turns, by a dict of actions and words, and the least state; or None."""
    for action, word in words.items():
        state = turned_state(action)
        if state is not None:
            return word, state
    return None
