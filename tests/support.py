"""What several tests need: values of all kinds, many machines, and slow checks."""

import itertools
import random

from neverturns.base.joined import chained, of_words
from neverturns.base.machines import Machine
from neverturns.errors import InvalidNumber, InvalidWord
from neverturns.still.boxes import Box


def nested(depth):
    """A tuple, list or dict in a tuple, list or dict, and so on."""
    value = "a"
    for at in range(depth):
        value = ((value,), [value], {"a": value})[at % 3]
    return value


# The kinds of [0.4]; none of them is a string.
NO_STRINGS = (
    None, True, False, 0, 1, -1, 7, 61, 10 ** 11, 10 ** 40 - 1, 1 - 10 ** 40,
    (), ("a",), ("a", "b"), (0,), (0, 1), ((0,),), ((1, 0), (0, 1)), (True,), (None, "a"),
    [], ["a"], [0], [[0]], {}, {"a": "b"}, {0: 0}, {(0, 1): [None]},
    nested(3), nested(10),
    Machine("ab", ((1, 0), (0, 1)), (0,)), (Machine("a", ((0,),)),), [Machine("b", ((0,),), (0,))],
    InvalidWord(), InvalidNumber([1]),
)
NO_WORDS = NO_STRINGS + ("A", "aB", "a b", " ", "a\n", "\n", "a1", "0", "a-b", "-", "z{", "`a", "~" * 400)
NO_LETTERS = NO_WORDS + ("", "aa", "ba", "zy", "abc", "aab", "a" * 400)
NO_MACHINES = NO_WORDS + ("", "ab", Box("ab", ((1, 0), (1, 1))), (Box("a", ((0,),)),))
NO_BOXES = NO_WORDS + ("", "ab", (Box("a", ((0,),)),), [Box("b", ((0,),))])
NO_NUMBERS = tuple([value for value in NO_WORDS if isinstance(value, bool) or not isinstance(value, int)]) + ("1", "")

EVEN = Machine("ab", ((1, 0), (0, 1)), (0,))
# Some of the kinds of [0.4] that are no map of two machines with two states.
NO_MAPS = tuple(value for value in NO_MACHINES if value != ((1, 0), (0, 1))) + (
    EVEN, ((0, 1),), ((0, 1), (0, 1), (0, 1)), [(0, 1), (0, 1)], ((0, 1), [0, 1]), ([0, 1], (0, 1)), ((0, 1), (0,)),
    ((0,), (0, 1)), ((0, 2), (0, 1)), ((0, -1), (0, 1)), ((0, 1), (0, 3)), ((0, 1), (0, -1)), ((False, 1), (0, 1)),
    ((0, True), (0, 1)), ((0, 1), (0, True)), ((0, 1), (False, False)), ((0, None), (0, 1)), ((0, "1"), (0, 1)),
    ("01", "01"), ((0, 1), "01"), ((0, (1,)), (0, 1)), ({0: 0, 1: 1}, (0, 1)), ((0, 10 ** 39), (0, 1)), (EVEN, EVEN),
    (((0, 1), (0, 1)),), ((0, 1, 0), (0, 1)), ((0, 1), (0, 1, 0, 1)), (0, 1), (0, 1, 0, 1), ((), ()),
)


def slow_after(machine, word):
    """The state to which a word leads, straight from [0.8]."""
    state = 0
    for letter in word:
        state = machine.table[state][machine.letters.index(letter)]
    return state


def slow_has(machine, word):
    return slow_after(machine, word) in machine.ends


def slow_words(letters, most):
    """All words of at most so many letters, sorted only at the end."""
    found = {""}
    for _ in range(most):
        found = found | {word + letter for word in found for letter in letters}
    return sorted(found, key=lambda word: (len(word), word))


def slow_firsts(machine):
    """A dict from the states to the first words that lead to them, by improving."""
    firsts = {0: ""}
    changed = True
    while changed:
        changed = False
        for state, word in list(firsts.items()):
            for letter, goal in zip(machine.letters, machine.table[state]):
                new = word + letter
                if goal not in firsts or (len(new), new) < (len(firsts[goal]), firsts[goal]):
                    firsts[goal] = new
                    changed = True
    return firsts


def slow_unlike(machine):
    """The pairs of states that some word tells apart, by growing the set."""
    size = len(machine.table)
    unlike = {
        (one, other) for one in range(size) for other in range(size)
        if (one in machine.ends) != (other in machine.ends)
    }
    changed = True
    while changed:
        changed = False
        for one in range(size):
            for other in range(size):
                goals = zip(machine.table[one], machine.table[other])
                if (one, other) not in unlike and any(pair in unlike for pair in goals):
                    unlike.add((one, other))
                    changed = True
    return unlike


def is_slowly_least(machine):
    """Whether all states are reached, unlike, and numbered by their first words."""
    firsts = slow_firsts(machine)
    order = sorted(firsts, key=lambda state: (len(firsts[state]), firsts[state]))
    size = len(machine.table)
    return order == list(range(size)) and len(slow_unlike(machine)) == size * (size - 1)


def all_machines(letters, size):
    """All machines with so many letters and states."""
    lines = [()]
    for _ in letters:
        lines = [line + (goal,) for line in lines for goal in range(size)]
    tables = [()]
    for _ in range(size):
        tables = [table + (line,) for table in tables for line in lines]
    ends = [()]
    for state in range(size):
        ends = ends + [some + (state,) for some in ends]
    return [Machine(letters, table, some) for table in tables for some in ends]


def some_machines(letters, size, many):
    """So many machines with so many states, the same ones in each run."""
    dice = random.Random(10 * size + len(letters))
    found = []
    for _ in range(many):
        table = tuple(tuple(dice.randrange(size) for _ in letters) for _ in range(size))
        ends = tuple(state for state in range(size) if dice.randrange(2))
        found.append(Machine(letters, table, ends))
    return found


def all_tables(letters, size):
    """All tables with so many letters and states."""
    lines = list(itertools.product(range(size), repeat=len(letters)))
    return list(itertools.product(lines, repeat=size))


def slow_led(table, letters, start, word):
    """The state to which a word leads from another one."""
    for letter in word:
        start = table[start][letters.index(letter)]
    return start


def slow_action(table, letters, word):
    """The tuple of the states to which a word leads."""
    return tuple(slow_led(table, letters, start, word) for start in range(len(table)))


def slow_actions(table, letters):
    """A dict from the actions to their first words: all words in order, until a length brings nothing new."""
    found = {}
    row = [""]
    while row:
        new = []
        for word in row:
            action = slow_action(table, letters, word)
            if action not in found:
                found[action] = word
                new.append(word)
        # Behind a word that is not the first one with its action, no word is a first one.
        row = [word + letter for word in new for letter in letters]
    return found


def slow_is_turn(table, letters, word, state):
    """Whether a word and a state are a turn, straight from [0.9]."""
    if slow_led(table, letters, state, word) == state:
        return False
    return any(slow_led(table, letters, state, word * times) == state for times in range(1, len(table) + 1))


def slow_first_turn(table, letters):
    """The first turn: by all first words of actions, and all states."""
    for word in sorted(slow_actions(table, letters).values(), key=lambda word: (len(word), word)):
        for state in range(len(table)):
            if slow_is_turn(table, letters, word, state):
                return word, state
    return None


def all_boxes(letters, size):
    """All boxes with so many letters and places."""
    return [Box(letters, table) for table in all_tables(letters, size) if slow_first_turn(table, letters) is None]


def some_boxes(letters, size, many):
    """So many boxes with so many places, the same ones in each run."""
    dice = random.Random(100 * size + len(letters))
    found = []
    while len(found) < many:
        table = tuple(tuple(dice.randrange(size) for _ in letters) for _ in range(size))
        if slow_first_turn(table, letters) is None:
            found.append(Box(letters, table))
    return found


def chain(size):
    """A machine with so many states and actions, by a long word of one letter alone."""
    left = size - 2
    made = of_words("a", ("",))
    while left > 0:
        made = chained(made, of_words("a", ("a" * min(left, 6),)))
        left -= 6
    return made


def spoken(machine, most):
    """The set of the words of a machine of at most so many letters."""
    return {word for word in slow_words(machine.letters, most) if slow_has(machine, word)}


def slow_image(one, other, word):
    """The image of a word, straight from [0.11]."""
    return slow_action(one.table, one.letters, word), slow_action(other.table, other.letters, word)


def slow_images(one, other):
    """A dict from the images to their first words: all words in order, until a length brings nothing new."""
    found = {}
    row = [""]
    while row:
        new = []
        for word in row:
            if slow_image(one, other, word) not in found:
                found[slow_image(one, other, word)] = word
                new.append(word)
        row = [word + letter for word in new for letter in one.letters]
    return found


def all_maps(one, other):
    """All maps of two machines, ascending."""
    firsts = itertools.product(range(len(one)), repeat=len(one))
    seconds = list(itertools.product(range(len(other)), repeat=len(other)))
    return list(itertools.product(firsts, seconds))


def slow_product(left, right):
    """The product of two maps, straight from [0.11]."""
    return tuple(tuple(right[side][state] for state in left[side]) for side in (0, 1))


def slow_cloud_product(left, right):
    return {slow_product(one, other) for one in left for other in right}


def slow_power(cloud, times):
    found = set(cloud)
    for _ in range(times - 1):
        found = slow_cloud_product(found, cloud)
    return found


def slow_often_number(cloud):
    """The number k of [0.12], by trying all."""
    powers = [None, set(cloud)]
    number = 1
    while True:
        while len(powers) <= 2 * number:
            powers.append(slow_cloud_product(powers[-1], cloud))
        if powers[number] == powers[2 * number]:
            return number
        number += 1


def slow_often(cloud):
    number = slow_often_number(cloud)
    return slow_power(cloud, number) | slow_power(cloud, number + 1)


def slow_is_bad(one, other, cloud):
    """Whether a cloud is bad, straight from [0.13]."""
    return (
        any(leads[0][0] in one.ends for leads in cloud) and any(leads[1][0] in other.ends for leads in cloud)
    )


def slow_recipe_clouds(one, other, recipe):
    """The clouds of a recipe as sets, straight from [8.2]."""
    clouds = []
    for step in recipe:
        if step[0] == "word":
            clouds.append({slow_image(one, other, step[1])})
        elif step[0] == "both":
            clouds.append(slow_cloud_product(clouds[step[1]], clouds[step[2]]))
        else:
            clouds.append(slow_often(clouds[step[1]]))
    return clouds


def pairs_with_few_images(letters, sizes, many, most):
    """So many pairs of machines of these sizes with at most so many images, the same ones in each run."""
    dice = random.Random(repr((letters, sizes, most)))
    found = []
    while len(found) < many:
        pair = []
        for size in sizes:
            table = tuple(tuple(dice.randrange(size) for _ in letters) for _ in range(size))
            pair.append(Machine(letters, table, tuple(state for state in range(size) if dice.randrange(2))))
        if len(slow_images(*pair)) <= most:
            found.append(tuple(pair))
    return found
