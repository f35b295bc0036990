"""Rows found: how a box is made of resets, by the image sets of its places.

A word leads all places to an image set. Such a set is taken apart into its tiles, these
into theirs, and so on down to single places. A stand tells such a chain of sets, with a
level for each height: which tile of the set with this height is the next one. Where no
set of the chain has this height, the value is 0.
"""

from neverturns.errors import InvalidOperation, TooMany
from neverturns.base.machines import check_machine
from neverturns.base.tables import explored, is_choice
from neverturns.row.resets import is_row_paper
from neverturns.still.actions import action_words, led_on, turn_among, unmoved
from neverturns.still.boxes import check_box, made_box
from neverturns.still.turns import is_turn_of

MAX_ROWED = 5
# So many actions have five states at most.
ALL_ACTIONS = 5 ** 5


def image_sets(box):
    """Return the ascending tuple of all image sets of a box."""
    check_rowed(box)
    return tuple(sets_of(box.table))


def height(box, places):
    """Return the height of an image set."""
    check_rowed(box)
    sets = sets_of(box.table)
    check_image_set(box, sets, places)
    return heights_of(sets, below_of(box.table, sets))[places]


def tiles(box, places):
    """Return the ascending tuple of the tiles of an image set."""
    check_rowed(box)
    sets = sets_of(box.table)
    check_image_set(box, sets, places)
    return tuple(tiles_of(sets, places))


def row_paper(box):
    """Return a row paper of a box."""
    check_rowed(box)
    return Chains(box.table).paper()


def calm_paper(machine):
    """Return a calm paper of a machine."""
    least = few_states(machine, MAX_ROWED)
    turn = turn_of(least)
    if turn is not None:
        return "turn", turn
    return "row", Chains(least.table).paper()


def is_calm_paper(machine, value):
    """Tell whether the value is a calm paper of a machine."""
    least = few_states(machine, MAX_ROWED)
    if not isinstance(value, tuple) or len(value) != 2:
        return False
    name, proof = value
    if name == "row":
        # No row is a paper of a table that goes round.
        return is_row_paper(made_box(least.letters, least.table), proof)
    return name == "turn" and is_turn_of(least, proof)


def check_rowed(value):
    """Raise the error for what is no box with a few places."""
    check_box(value)
    if len(value) > MAX_ROWED:
        raise TooMany(MAX_ROWED)


def check_image_set(box, sets, value):
    """Raise InvalidOperation if the value is none of the image sets of a box."""
    if not is_choice(value, len(box)) or value not in sets:
        raise InvalidOperation("this is no image set of the box")


def few_states(value, most):
    """Return the least machine with the words of a value, or raise the error if it is none with so few states."""
    check_machine(value)
    least = value.least()
    if len(least) > most:
        raise TooMany(most)
    return least


def turn_of(least):
    """Return the first turn of a machine with a few states, or None."""
    return turn_among(action_words(least.table, least.letters, ALL_ACTIONS))


def led_set(table, places, column):
    """Return the ascending tuple of the places to which a letter, by its column, leads some places."""
    return tuple(sorted(set(led_on(table, places, column))))


def sets_led(table, places):
    """Return the list of the sets to which words lead some places."""
    return explored(places, lambda now, column: led_set(table, now, column), len(table[0]), None)[0]


def sets_of(table):
    """Return the ascending list of all image sets."""
    return sorted(set(sets_led(table, unmoved(table)) + [(place,) for place in unmoved(table)]))


def is_part(places, others):
    """Tell whether each of some places is one of the others."""
    return all([place in others for place in places])


def below_of(table, sets):
    """Return a dict from the image sets to the lists of those that are below them."""
    below = {}
    for places in sets:
        goals = sets_led(table, places)
        below[places] = [part for part in sets if any([is_part(part, goal) for goal in goals])]
    return below


def heights_of(sets, below):
    """Return a dict from the image sets to their heights."""
    heights = {}
    # What is below a set, and has it not below itself, has fewer sets below itself.
    for _, places in sorted([(len(below[row]), row) for row in sets]):
        lesser = [heights[part] for part in below[places] if places not in below[part]]
        heights[places] = 0 if len(places) == 1 else 1 + max(lesser)
    return heights


def tiles_of(sets, places):
    """Return the ascending list of the tiles of an image set."""
    parts = [part for part in sets if len(part) < len(places) and is_part(part, places)]
    return [part for part in parts if not any([part != other and is_part(part, other) for other in parts])]


class Chains:
    """The chains of image sets of a table without turns, and how letters lead them.

    Words that lead an image set to one with the same height, and another word back, lead
    all its places alike, for nothing goes round. So the tiles of both have the same numbers.
    """

    def __init__(self, table):
        self.rows = table
        self.sets = sets_of(table)
        self.below = below_of(table, self.sets)
        self.heights = heights_of(self.sets, self.below)
        self.tiled = {}
        for places in self.sets:
            if places not in self.tiled:
                self.number_tiles(places)
        self.whole = unmoved(table)
        self.levels = list(range(self.heights[self.whole], 0, -1))
        self.rules = [[{} for _ in table[0]] for _ in self.levels]

    def number_tiles(self, places):
        """Give numbers to the tiles of an image set, and of each set to which it is led and back."""
        parts = tiles_of(self.sets, places)
        for goals in explored(places, self.led_apart, len(self.rows[0]), None)[0]:
            goal = tuple(sorted(list(goals)))
            if goal != () and places in self.below[goal]:
                led = {place: end for place, end in zip(places, goals)}
                self.tiled[goal] = [tuple(sorted([led[place] for place in part])) for part in parts]

    def led_apart(self, goals, column):
        """Return the places to which a letter leads others, in their order, or () if two are led to one."""
        ends = led_on(self.rows, goals, column)
        return ends if len(set(ends)) == len(goals) else ()

    def paper(self):
        """Return the row paper."""
        first = self.first_stand()
        found = explored(first, self.led_stand, len(self.rows[0]), None)[0]
        row = []
        for at, now in enumerate(self.levels):
            values = max([len(self.tiled[places]) for places in self.tiled if self.heights[places] == now])
            rules = [{head: rule[head] for head in sorted(list(rule))} for rule in self.rules[at]]
            row.append((values, first[at], tuple(rules)))
        return tuple(row), tuple([self.last_place(stand) for stand in found])

    def first_stand(self):
        """Return the stand of the first chain down to the place 0."""
        stand = []
        places = self.whole
        for now in self.levels:
            stand.append(self.tile_with(places, (0,)) if self.heights[places] == now else 0)
            places = self.inner(places, now, stand[-1])
        return tuple(stand)

    def last_place(self, stand):
        """Return the single place at the end of a chain."""
        places = self.whole
        for now, value in zip(self.levels, stand):
            places = self.inner(places, now, value)
        return places[0]

    def inner(self, places, now, value):
        """Return the next set of a chain below a height."""
        return self.tiled[places][value] if self.heights[places] == now else places

    def tile_with(self, places, part):
        """Return the number of the first tile that has all of some places."""
        return [is_part(part, tile) for tile in self.tiled[places]].index(True)

    def led_stand(self, stand, column):
        """Return the stand to which a letter leads, and note the rules for it.

        At each level the letter leads the set of the old chain into that of the new one. If
        it leads to all of this, the tile keeps its number; otherwise the place of the old
        chain does not matter for the next tile.
        """
        new = []
        old_set = self.whole
        new_set = self.whole
        for at, now in enumerate(self.levels):
            led = led_set(self.rows, old_set, column)
            if self.heights[new_set] != now:
                new.append(0)
            elif led == new_set:
                new.append(stand[at])
            else:
                new.append(self.tile_with(new_set, led))
            if self.heights[new_set] != now or led != new_set:
                self.rules[at][column][stand[:at]] = new[at]
            old_set = self.inner(old_set, now, stand[at])
            new_set = self.inner(new_set, now, new[at])
        return tuple(new)
