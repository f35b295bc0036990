"""What a box sees of machines: the places to which their words lead it."""

from neverturns.base.machines import check_machine, check_same_letters, least_machine
from neverturns.base.tables import beside, first_word_to, kept_pairs, led, marked
from neverturns.base.words import is_between
from neverturns.still.boxes import check_box, check_place


def places(machine, box):
    """Return the ascending tuple of the places to which the words of a machine lead."""
    check_seen(machine, box)
    return seen_places(machine, box)


def word_to(machine, box, place):
    """Return the first word of the machine that leads to a place, or None."""
    check_machine(machine)
    check_box(box)
    check_place(box, place)
    check_same_letters(machine, box)
    return first_word_seen(machine, box, place)


def tells_apart(one, other, box):
    """Tell whether a box tells two machines apart."""
    check_both(one, other, box)
    return shared_place(one, other, box) is None


def alike_pair(one, other, box):
    """Return a word of the one and a word of the other that lead to the same place, or None."""
    check_both(one, other, box)
    place = shared_place(one, other, box)
    if place is None:
        return None
    return first_word_seen(one, box, place), first_word_seen(other, box, place)


def is_alike_pair(one, other, box, value):
    """Tell whether the value is a pair as alike_pair returns."""
    check_both(one, other, box)
    if not is_pair_of_words(one, other, value):
        return False
    first, second = value
    return led(box.table, box.letters, 0, first) == led(box.table, box.letters, 0, second)


def is_pair_of_words(one, other, value):
    """Tell whether the value is a pair of a word of the one and a word of the other machine."""
    if not isinstance(value, tuple) or len(value) != 2:
        return False
    first, second = value
    return first in one and second in other


def seen_by(machine, box):
    """Return the least machine of the words that the box does not tell from all of the machine."""
    check_seen(machine, box)
    return least_machine(box.letters, box.table, seen_places(machine, box))


def apart_paper(one, other, box):
    """Return a paper that a box tells two machines apart, or None."""
    check_both(one, other, box)
    if shared_place(one, other, box) is not None:
        return None
    return pairs_of(one, box), pairs_of(other, box)


def is_apart_paper(one, other, box, value):
    """Tell whether the value is a paper that a box tells two machines apart."""
    check_both(one, other, box)
    if not isinstance(value, tuple) or len(value) != 2:
        return False
    first, second = value
    if not is_closed(one, box, first) or not is_closed(other, box, second):
        return False
    seen = marked(places_with(one, first))
    return not any([place in seen for place in places_with(other, second)])


def is_closed(machine, box, value):
    """Tell whether the value is one of the two tuples of a paper, but for the ends."""
    if not isinstance(value, tuple) or not all([is_state_and_place(machine, box, pair) for pair in value]):
        return False
    if not all([low < high for low, high in zip(value, value[1:])]):
        return False
    held = marked(value)
    goals = [
        goal for state, place in value
        for goal in zip(machine.table[state], box.table[place])
    ]
    return (0, 0) in held and all([goal in held for goal in goals])


def is_state_and_place(machine, box, value):
    """Tell whether the value is a pair of a state of the machine and a place of the box."""
    if not isinstance(value, tuple) or len(value) != 2:
        return False
    state, place = value
    return is_between(state, 0, len(machine) - 1) and is_between(place, 0, len(box) - 1)


def places_with(machine, pairs):
    """Return the list of the places that stand with an end in pairs of states and places."""
    ends = marked(machine.ends)
    return [place for state, place in pairs if state in ends]


def pairs_of(machine, box):
    """Return the ascending tuple of the pairs of states and places to which words lead."""
    return tuple(sorted(beside(machine.table, box.table)[0]))


def seen_places(machine, box):
    """Return the ascending tuple of the places to which the words of a machine lead."""
    return tuple(sorted(set(places_with(machine, pairs_of(machine, box)))))


def shared_place(one, other, box):
    """Return the least place to which words of both machines lead, or None."""
    seen = marked(seen_places(one, box))
    for place in seen_places(other, box):
        if place in seen:
            return place
    return None


def first_word_seen(machine, box, place):
    """Return the first word of the machine that leads to a place, or None."""
    pairs, table = beside(machine.table, box.table)
    return first_word_to(table, box.letters, kept_pairs(pairs, machine.ends, (place,), ((True, True),)))


def check_seen(machine, box):
    """Raise the error for what is no machine and no box with the same letters."""
    check_machine(machine)
    check_box(box)
    check_same_letters(machine, box)


def check_both(one, other, box):
    """Raise the error for what are no two machines and no box with the same letters."""
    check_machine(one)
    check_machine(other)
    check_box(box)
    check_same_letters(one, other)
    check_same_letters(one, box)
