"""The kinds of two machines, boxes with few places that tell them apart, and papers about them."""

from neverturns.errors import InvalidNumber, InvalidOperation
from neverturns.base.joined import common_word
from neverturns.base.machines import Machine, check_machine, check_same_letters, check_two
from neverturns.base.tables import reached
from neverturns.base.words import is_between
from neverturns.cloud.finding import are_blurred, blur, clear_paper
from neverturns.cloud.papers import LONGEST_STEP, is_blur_for, is_clear_paper
from neverturns.part.ends import MAX_SIZE, are_ended, last_letters_box, least_end
from neverturns.still.actions import action_words, turn_among
from neverturns.still.boxes import ALL_ACTIONS, Box, made_box
from neverturns.still.sights import shared_place

KINDS = ("ends", "still", "rings", "meets")
# Of these kinds are two machines that no box tells apart.
UNTOLD = ("rings", "meets")
FEWEST_MACHINES = 2
MOST_MACHINES = 4
MOST_PLACES = 3


def kind(one, other):
    """Return the kind of two machines."""
    check_two(one, other)
    if common_word(one, other) is not None:
        return "meets"
    if least_end(one, other) is not None:
        return "ends"
    if are_blurred(one, other):
        return "rings"
    return "still"


def latest(first, *rest):
    """Return, of one or more kinds, the one that comes last."""
    places = []
    for value in (first,) + rest:
        if value not in KINDS:
            raise InvalidOperation("this is no kind")
        places.append(KINDS.index(value))
    return KINDS[max(places)]


def first_box(one, other, most):
    """Return a box with the fewest places that tells two machines apart, or None."""
    check_machine(one)
    check_machine(other)
    check_most(most)
    check_same_letters(one, other)
    return least_box((one, other), most)


def common_box(machines, most):
    """Return a box with the fewest places that tells each two of some machines apart, or None."""
    check_family(machines)
    check_most(most)
    return least_box(machines, most)


def kind_table(machines):
    """Return the dict from the pairs of indices of some machines to their kinds."""
    check_family(machines)
    return {(first, second): kind(machines[first], machines[second]) for first, second in index_pairs(machines)}


def groups(machines):
    """Return the tuple of the groups of indices that pairs which no box tells apart lead to one another."""
    table = kind_table(machines)
    firsts = list(range(len(machines)))
    for pair in table:
        if table[pair] in UNTOLD:
            low, high = sorted([firsts[at] for at in pair])
            firsts = [low if first == high else first for first in firsts]
    return tuple([
        tuple([at for at, first in enumerate(firsts) if first == least]) for least in sorted(set(firsts))
    ])


def parting_paper(one, other):
    """Return a parting paper of two machines."""
    check_two(one, other)
    word = common_word(one, other)
    if word is not None:
        return "blur", recipe_of_word(word)
    size = least_end(one, other)
    if size is not None and size <= MAX_SIZE:
        return "ends", size
    box = None if size is None else last_letters_box(one, size)
    if box is not None:
        return "box", box
    recipe = blur(one, other)
    if recipe is not None:
        return "blur", recipe
    return "clear", clear_paper(one, other)


def is_parting_paper(one, other, value):
    """Tell whether the value is a parting paper of two machines."""
    check_two(one, other)
    if not isinstance(value, tuple) or len(value) != 2:
        return False
    name, proof = value
    if name == "ends":
        return is_between(proof, 0, MAX_SIZE) and are_ended(one, other, proof)
    if name == "box":
        return isinstance(proof, Box) and proof.letters == one.letters and shared_place(one, other, proof) is None
    if name == "clear":
        return is_clear_paper(one, other, proof)
    return name == "blur" and is_blur_for(one, other, proof)


def check_most(value):
    """Raise InvalidNumber if the value is no number of places that is let here."""
    if not is_between(value, 1, MOST_PLACES):
        raise InvalidNumber(value)


def check_family(value):
    """Raise InvalidOperation if the value is no tuple of a few machines with equal sets of letters."""
    if not isinstance(value, tuple) or not FEWEST_MACHINES <= len(value) <= MOST_MACHINES:
        raise InvalidOperation("this is no tuple of two to four machines")
    if not all([isinstance(machine, Machine) for machine in value]):
        raise InvalidOperation("this is no tuple of machines alone")
    for machine in value:
        check_same_letters(machine, value[0])


def index_pairs(machines):
    """Return the list of the pairs of indices of some machines, the lesser one first."""
    size = len(machines)
    return [(first, second) for first in range(size) for second in range(first + 1, size)]


def least_box(machines, most):
    """Return a box with the fewest places that tells each two of some machines apart, or None."""
    pairs = [(machines[first], machines[second]) for first, second in index_pairs(machines)]
    if not all([common_word(one, other) is None for one, other in pairs]):
        return None
    letters = machines[0].letters
    for size in range(1, most + 1):
        for table in lean_tables(len(letters), size):
            box = made_box(letters, table)
            if tells_all(pairs, box) and turn_among(action_words(table, letters, ALL_ACTIONS)) is None:
                return box
    return None


def tells_all(pairs, box):
    """Tell whether a box tells both machines of each pair apart."""
    for one, other in pairs:
        if shared_place(one, other, box) is not None:
            return False
    return True


def lean_tables(width, size):
    """Return the list of all tables with so many places, numbered by the first words that lead to them."""
    lines = [()]
    for _ in range(width):
        lines = [line + (goal,) for line in lines for goal in range(size)]
    tables = [()]
    for _ in range(size):
        tables = [table + (line,) for table in tables for line in lines]
    places = list(range(size))
    return [table for table in tables if reached(table) == places]


def recipe_of_word(word):
    """Return a recipe for just one word, of any length."""
    steps = []
    numbers = {}

    def number(step):
        # Pieces that come again need no step of their own.
        if step not in numbers:
            numbers[step] = len(steps)
            steps.append(step)
        return numbers[step]

    row = [number(("word", word[at:at + LONGEST_STEP])) for at in range(0, max(1, len(word)), LONGEST_STEP)]
    while len(row) > 1:
        last = row[len(row) - len(row) % 2:]
        row = [number(("both", left, right)) for left, right in zip(row[::2], row[1::2])] + last
    return tuple(steps)
