"""Maps of two machines: where they lead the states of both."""

from neverturns.errors import InvalidOperation, TooMany
from neverturns.base.machines import check_two
from neverturns.base.tables import is_line
from neverturns.base.words import check_only, check_word
from neverturns.still.actions import acted, action_words, composed, repeats

MAX_IMAGES = 32


def image(one, other, word):
    """Return the image of a word."""
    check_two(one, other)
    check_word(word)
    check_only(word, one.letters)
    return image_of(one, other, word)


def images(one, other):
    """Return the tuple of all images, in the order of the first words that have them."""
    check_two(one, other)
    return tuple(list(few_images(one, other)))


def first_words(one, other):
    """Return the dict from all images to their first words."""
    check_two(one, other)
    words = few_images(one, other)
    return {leads: words[leads] for leads in sorted(list(words))}


def is_image(one, other, value):
    """Tell whether the value is the image of some word."""
    check_two(one, other)
    words = few_images(one, other)
    return is_map_of(one, other, value) and value in words


def is_map(one, other, value):
    """Tell whether the value is a map of two machines."""
    check_two(one, other)
    return is_map_of(one, other, value)


def product(one, other, left, right):
    """Return the product of two maps."""
    check_two(one, other)
    check_map(one, other, left)
    check_map(one, other, right)
    return map_product(left, right)


def rounds(one, other, leads):
    """Return from which number on a map, taken so often, goes round, and after how many more."""
    check_two(one, other)
    check_map(one, other, leads)
    first, second = leads
    trail, back = repeats(first + tuple([len(one) + state for state in second]))
    return max(1, back), len(trail) - back


def hits(one, other, leads):
    """Return for each of both machines whether the map leads its state 0 to an end."""
    check_two(one, other)
    check_map(one, other, leads)
    return hits_of(one, other, leads)


def image_of(one, other, word):
    """Return the image of a word of the letters."""
    return acted(one.table, one.letters, word), acted(other.table, other.letters, word)


def few_images(one, other):
    """Return a dict from all images to their first words, in their order: TooMany if they are too many."""
    size = len(one)
    # The states of the other machine stand behind those of the one, so that both are one table.
    shifted = tuple([tuple([size + goal for goal in line]) for line in other.table])
    words = action_words(one.table + shifted, one.letters, MAX_IMAGES)
    if len(words) > MAX_IMAGES:
        raise TooMany(MAX_IMAGES)
    return {
        (action[:size], tuple([goal - size for goal in action[size:]])): words[action]
        for action in words
    }


def is_map_of(one, other, value):
    """Tell whether the value has a state of the same machine for each state of both."""
    if not isinstance(value, tuple) or len(value) != 2:
        return False
    first, second = value
    return is_line(first, len(one), len(one)) and is_line(second, len(other), len(other))


def check_map(one, other, value):
    """Raise InvalidOperation if the value is no map of two machines."""
    if not is_map_of(one, other, value):
        raise InvalidOperation("this is no map of the two machines")


def map_product(left, right):
    """Return the map that leads each state to where the second map leads what the first one leads it to."""
    return composed(left[0], right[0]), composed(left[1], right[1])


def hits_of(one, other, leads):
    """Return for each of both machines whether the map leads its state 0 to an end."""
    return leads[0][0] in one.ends, leads[1][0] in other.ends


class Maps:
    """Maps with numbers, in the order in which they come, and the numbers of their products."""

    def __init__(self):
        self.maps = []
        self.numbers = {}
        self.products = []

    def number(self, leads):
        """Return the number of a map."""
        if leads not in self.numbers:
            self.numbers[leads] = len(self.maps)
            self.maps.append(leads)
            self.products.append({})
        return self.numbers[leads]

    def product(self, left, right):
        """Return the number of the product of two maps, by their numbers."""
        known = self.products[left]
        if right not in known:
            known[right] = self.number(map_product(self.maps[left], self.maps[right]))
        return known[right]
