"""The clouds of two machines, found from those of single words on."""

from heapq import heappop, heappush

from neverturns.errors import Refused
from neverturns.base.machines import check_two
from neverturns.base.words import check_only, check_word
from neverturns.cloud.images import few_images, hits_of, image_of, map_product
from neverturns.cloud.papers import check_cloud, is_cloud_for, picked_steps, power_at, settled_number

# A cloud taken often has words that are so much longer than those of the cloud, or somewhat more.
OFTEN = 7
# After so many clouds a search for short words ends.
MOST_KEPT = 300


class Search:
    """The clouds of two machines, and a recipe for each.

    A cloud is kept as a number, a mask, whose bits tell which images it has. A part of a
    cloud brings nothing new, so only clouds are kept that are no part of a found one. The
    greatest ones are taken first, so that few are kept on the way to them; or, if words
    are to be short, those with the shortest words, but then not all clouds are found.
    """

    def __init__(self, one, other, is_short):
        words = few_images(one, other)
        self.maps = list(words)
        numbers = {leads: at for at, leads in enumerate(self.maps)}
        self.bits = [[1 << numbers[map_product(left, right)] for right in self.maps] for left in self.maps]
        self.is_short = is_short
        self.masks = []
        self.steps = []
        self.costs = []
        self.behind = []
        self.greatest = []
        self.queue = []
        self.best = {}
        self.offered = 0
        for at, leads in enumerate(self.maps):
            self.offer(len(words[leads]), 1 << at, ("word", words[leads]))

    def take(self):
        """Find one cloud more, and tell whether there was one."""
        while self.queue:
            _, cost, _, mask, step = heappop(self.queue)
            if not self.has(mask):
                self.keep(cost, mask, step)
                return True
        return False

    def has(self, mask):
        """Tell whether the mask is a part of a found one."""
        for at in self.greatest:
            if mask | self.masks[at] == self.masks[at]:
                return True
        return False

    def offer(self, cost, mask, step):
        """Let a cloud wait for its turn, if it brings something new."""
        if (mask not in self.best or cost < self.best[mask]) and not self.has(mask):
            self.best[mask] = cost
            self.offered = self.offered + 1
            rank = 0 if self.is_short else -len(self.members(mask))
            heappush(self.queue, (rank, cost, self.offered, mask, step))

    def keep(self, cost, mask, step):
        """Keep a cloud, and offer what it makes with all others."""
        new = len(self.masks)
        self.masks.append(mask)
        self.steps.append(step)
        self.costs.append(cost)
        rights = self.members(mask)
        self.behind.append([joined([row[right] for right in rights]) for row in self.bits])
        self.greatest = [at for at in self.greatest if mask | self.masks[at] != mask] + [new]
        self.offer(OFTEN * cost + 1, self.often(new), ("often", new))
        for at in self.greatest:
            self.offer(cost + self.costs[at] + 1, self.product(new, at), ("both", new, at))
            self.offer(cost + self.costs[at] + 1, self.product(at, new), ("both", at, new))

    def members(self, mask):
        """Return the list of the numbers of the images that a mask has."""
        return [at for at in range(len(self.maps)) if mask >> at & 1]

    def product(self, left, right):
        """Return the mask of the product of two found clouds."""
        return self.led(self.masks[left], right)

    def led(self, mask, right):
        """Return the mask of the product of a mask and a found cloud."""
        return joined([self.behind[right][at] for at in self.members(mask)])

    def often(self, at):
        """Return the mask of a found cloud, taken often."""
        trail = [self.masks[at]]
        goal = self.led(trail[-1], at)
        while goal not in trail:
            trail.append(goal)
            goal = self.led(trail[-1], at)
        back = trail.index(goal)
        number = settled_number(trail, back)
        return power_at(trail, back, number) | power_at(trail, back, number + 1)

    def first_with(self, marks):
        """Return the index of the first found cloud with an image of each mark, or None."""
        for at, mask in enumerate(self.masks):
            if all([mask & mark for mark in marks]):
                return at
        return None

    def recipe_of(self, last):
        """Return the recipe of a found cloud."""
        return picked_steps(self.steps, last)


def joined(masks):
    """Return the mask of all images that some masks have."""
    found = 0
    for mask in masks:
        found = found | mask
    return found


def greatest_clouds(one, other):
    """Return the ascending tuple of the clouds that are no part of another one."""
    check_two(one, other)
    return greatest_of(searched(one, other))


def is_cloud(one, other, value):
    """Tell whether the value is one of the clouds of two machines."""
    check_two(one, other)
    search = searched(one, other)
    return is_cloud_for(one, other, value) and is_found(search, value)


def are_clouded(one, other, word, second):
    """Tell whether some cloud has the images of both words."""
    check_two(one, other)
    check_word(word)
    check_word(second)
    check_only(word, one.letters)
    check_only(second, one.letters)
    return is_found(searched(one, other), (image_of(one, other, word), image_of(one, other, second)))


def are_blurred(one, other):
    """Tell whether a cloud of the two machines is bad."""
    check_two(one, other)
    search = searched(one, other)
    return search.first_with(bad_marks(one, other, search.maps)) is not None


def blur(one, other):
    """Return a blur, or None."""
    check_two(one, other)
    search = searched(one, other)
    marks = bad_marks(one, other, search.maps)
    if search.first_with(marks) is None:
        return None
    return short_recipe(one, other, search, marks)


def clear_paper(one, other):
    """Return a clear paper, or None."""
    check_two(one, other)
    search = searched(one, other)
    if search.first_with(bad_marks(one, other, search.maps)) is not None:
        return None
    return greatest_of(search)


def recipe_for(one, other, cloud):
    """Return a recipe whose last cloud has all maps of a cloud."""
    check_two(one, other)
    check_cloud(one, other, cloud)
    search = searched(one, other)
    if not is_found(search, cloud):
        raise Refused(cloud)
    return short_recipe(one, other, search, marks_of(search, cloud))


def searched(one, other):
    """Return the search that has found all clouds of two machines."""
    search = Search(one, other, False)
    while search.take():
        pass
    return search


def short_recipe(one, other, search, marks):
    """Return a recipe of a cloud with an image of each mark, where a whole search has one."""
    quick = Search(one, other, True)
    while len(quick.masks) < MOST_KEPT and quick.first_with(marks) is None and quick.take():
        pass
    if quick.first_with(marks) is None:
        return search.recipe_of(search.first_with(marks))
    return quick.recipe_of(quick.first_with(marks))


def greatest_of(search):
    """Return the ascending tuple of the greatest clouds that were found."""
    clouds = [
        tuple(sorted([search.maps[number] for number in search.members(search.masks[at])]))
        for at in search.greatest
    ]
    return tuple(sorted(clouds))


def bad_marks(one, other, maps):
    """Return the masks of the images that hit an end of the one, and of the other machine."""
    found = [hits_of(one, other, leads) for leads in maps]
    firsts = joined([1 << at for at, (first, _) in enumerate(found) if first])
    seconds = joined([1 << at for at, (_, second) in enumerate(found) if second])
    return firsts, seconds


def marks_of(search, cloud):
    """Return a mask for each map of a cloud, without those that are no images."""
    numbers = {leads: at for at, leads in enumerate(search.maps)}
    return [1 << numbers[leads] for leads in cloud if leads in numbers]


def is_found(search, cloud):
    """Tell whether some found cloud has all maps of a cloud."""
    marks = marks_of(search, cloud)
    return len(marks) == len(cloud) and search.first_with(marks) is not None
