"""Words for recipes, which no box with few places tells apart."""

from neverturns.errors import InvalidNumber, InvalidOperation, TooMany
from neverturns.base.machines import check_machine, check_same_letters
from neverturns.base.words import is_between
from neverturns.cloud.images import Maps, hits_of, image_of, is_map_of
from neverturns.cloud.papers import check_recipe, clouds_of, is_blur_for, needed_steps
from neverturns.still.actions import acted, composed, repeats
from neverturns.still.sights import check_both, is_pair_of_words

MAX_LENGTH = 100000
MAX_NUMBER = 6


class Making:
    """The shortest words for the steps of a recipe, by their images.

    For each step there is a dict from the images of its words to what the shortest words
    are made of: a tuple that begins with the length. For what is made of two parts, the
    image and the tuple of the first part and the image of the second one stand behind.
    Words that are too long are left out, for no shorter ones are made of them.
    """

    def __init__(self, one, other, recipe, numbers):
        self.recipe = recipe
        self.maps = Maps()
        self.made = []
        none = {self.maps.number(image_of(one, other, "")): (0,)}
        needed = needed_steps(recipe, len(recipe) - 1)
        for at, step in enumerate(recipe):
            if at not in needed:
                self.made.append({})
            elif step[0] == "word":
                self.made.append({self.maps.number(image_of(one, other, step[1])): (len(step[1]),)})
            elif step[0] == "both":
                self.made.append(self.both(self.made[step[1]], self.made[step[2]]))
            else:
                self.made.append(self.often(none, self.made[step[1]], numbers[at]))

    def both(self, lefts, rights):
        """Return what some words with some others behind them are made of."""
        found = {}
        for left, head in lefts.items():
            for right, tail in rights.items():
                length = head[0] + tail[0]
                if length <= MAX_LENGTH:
                    goal = self.maps.product(left, right)
                    if goal not in found or length < found[goal][0]:
                        found[goal] = (length, left, head, right)
        return found

    def often(self, none, factors, number):
        """Return what at least so many words of a step, one behind the other, are made of."""
        found = none
        for _ in range(number):
            found = self.both(found, factors)
        news = found
        while news:
            more = self.both(news, factors)
            news = {goal: more[goal] for goal in more if goal not in found or more[goal][0] < found[goal][0]}
            found = {**found, **news}
        return found

    def shortest(self, maps):
        """Return the shortest word for the recipe with one of the maps as its image: TooMany if it is too long."""
        made = self.made[-1]
        found = [(made[self.maps.number(leads)][0], leads) for leads in maps if self.maps.number(leads) in made]
        if not found:
            raise TooMany(MAX_LENGTH)
        return self.word(self.maps.number(min(found)[1]))

    def images(self):
        """Return the list of the images of the words for the recipe."""
        return [self.maps.maps[number] for number in self.made[-1]]

    def word(self, goal):
        """Return the word for the recipe with this image."""
        last = len(self.recipe) - 1
        wanted = [{} for _ in self.recipe]
        wanted[last][goal] = True
        for at in range(last, -1, -1):
            for number in wanted[at]:
                for source, part in self.parts(at, number):
                    wanted[source][part] = True
        texts = []
        for at, step in enumerate(self.recipe):
            if step[0] == "word":
                texts.append({number: step[1] for number in wanted[at]})
            else:
                texts.append({
                    number: "".join([texts[source][part] for source, part in self.parts(at, number)])
                    for number in wanted[at]
                })
        return texts[last][goal]

    def parts(self, at, number):
        """Return the list of the earlier steps, and the images, of which a word is made."""
        step = self.recipe[at]
        made = self.made[at][number]
        if step[0] == "word":
            return []
        if step[0] == "both":
            return [(step[1], made[1]), (step[2], made[3])]
        factors = []
        while len(made) > 1:
            factors.append((step[1], made[3]))
            made = made[2]
        return factors[::-1]


def word_for(one, other, recipe, leads, number):
    """Return a word for the recipe at the number whose image is a map of its cloud."""
    check_machine(one)
    check_machine(other)
    check_number(number)
    check_same_letters(one, other)
    check_recipe(one, recipe)
    if not is_map_of(one, other, leads) or leads not in clouds_of(one, other, recipe)[-1]:
        raise InvalidOperation("this is no map of the cloud of the recipe")
    return Making(one, other, recipe, [number] * len(recipe)).shortest([leads])


def words_against(one, other, blur, number):
    """Return a word of the one and a word of the other machine that are words for the blur at the number."""
    check_machine(one)
    check_machine(other)
    check_number(number)
    check_same_letters(one, other)
    check_blur(one, other, blur)
    return made_words(one, other, blur, [number] * len(blur))


def pair_against(one, other, blur, box):
    """Return a word of the one and a word of the other machine that lead each place of the box alike."""
    check_both(one, other, box)
    check_blur(one, other, blur)
    return made_words(one, other, blur, enough_for(box, blur))


def is_pair(one, other, box, value):
    """Tell whether the value is a pair as pair_against returns."""
    check_both(one, other, box)
    if not is_pair_of_words(one, other, value):
        return False
    first, second = value
    return acted(box.table, box.letters, first) == acted(box.table, box.letters, second)


def against_all(one, other, blur, most):
    """Yield each number up to a greatest one with two words for the blur, of the one and of the other machine."""
    check_machine(one)
    check_machine(other)
    check_number(most)
    check_same_letters(one, other)
    check_blur(one, other, blur)
    rows = []
    # All words are made ahead of the first value, for an error comes with this one.
    for number in range(1, most + 1):
        first, second = made_words(one, other, blur, [number] * len(blur))
        rows.append((number, first, second))
    yield from rows


def check_number(value):
    """Raise InvalidNumber if the value is no number that is let here."""
    if not is_between(value, 1, MAX_NUMBER):
        raise InvalidNumber(value)


def check_blur(one, other, value):
    """Raise InvalidOperation if the value is no blur."""
    if not is_blur_for(one, other, value):
        raise InvalidOperation("this is no blur of the two machines")


def made_words(one, other, blur, numbers):
    """Return the shortest word of the one and of the other machine that are words for the blur."""
    making = Making(one, other, blur, numbers)
    maps = making.images()
    hit = [hits_of(one, other, leads) for leads in maps]
    firsts = [leads for leads, (first, _) in zip(maps, hit) if first]
    seconds = [leads for leads, (_, second) in zip(maps, hit) if second]
    return making.shortest(firsts), making.shortest(seconds)


def enough_for(box, recipe):
    """Return for each step how many words of the step lead each place as more of them do, at least 1."""
    actions = []
    numbers = []
    for step in recipe:
        number = 1
        if step[0] == "word":
            action = acted(box.table, box.letters, step[1])
        elif step[0] == "both":
            action = composed(actions[step[1]], actions[step[2]])
        else:
            # All words for the earlier step lead the places alike.
            trail, back = repeats(actions[step[1]])
            action = trail[back]
            number = max(1, back)
        actions.append(action)
        numbers.append(number)
    return numbers
