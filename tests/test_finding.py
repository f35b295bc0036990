"""Clouds found, against a slow building of all clouds, and against what the found ones must be."""

import itertools
import unittest

from neverturns.base.joined import mirrored, renamed
from neverturns.base.machines import Machine
from neverturns.cloud.finding import are_blurred, are_clouded, blur, clear_paper, greatest_clouds, is_cloud, recipe_for
from neverturns.cloud.images import first_words, rounds
from neverturns.cloud.papers import is_blur, is_clear_paper, is_recipe
from neverturns.errors import InvalidMachine, InvalidOperation, InvalidWord, Refused, TooMany
from neverturns.still.sights import tells_apart
from neverturns.still.turns import is_calm, is_still
from tests.support import NO_MACHINES, NO_MAPS, NO_WORDS
from tests.support import all_boxes, all_machines, all_maps, chain, pairs_with_few_images, slow_cloud_product
from tests.support import slow_image, slow_images, slow_is_bad, slow_often, slow_product, slow_recipe_clouds
from tests.support import some_boxes, some_machines

EVEN = Machine("ab", ((1, 0), (0, 1)), (0,))
ODD = Machine("ab", ((1, 0), (0, 1)), (1,))
STARTS = Machine("ab", ((1, 2), (1, 1), (2, 2)), (1,))
OTHERS = Machine("ab", ((1, 2), (1, 1), (2, 2)), (0, 2))
ALONE = Machine("a", ((0,),), (0,))
MANY = Machine("ab", ((3, 1), (2, 3), (0, 1), (2, 0)), (0,))
STAY = ((0, 1), (0, 1))
PRESS = ((1, 0), (1, 0))
# All 24 ways to exchange four states, twice.
GROUP = (
    Machine("ab", ((2, 3), (0, 1), (3, 0), (1, 2)), (0,)), Machine("ab", ((3, 0), (0, 2), (1, 3), (2, 1)), (3,)),
)
TINY = (
    pairs_with_few_images("a", (1, 1), 1, 5) + pairs_with_few_images("a", (4, 3), 12, 5)
    + pairs_with_few_images("a", (2, 2), 8, 5) + pairs_with_few_images("ab", (2, 1), 12, 5)
    + pairs_with_few_images("ab", (2, 2), 12, 5) + pairs_with_few_images("ab", (3, 2), 12, 5) + [(EVEN, ODD)]
    + [(STARTS, OTHERS)]
)
WIDER = (
    pairs_with_few_images("ab", (3, 2), 15, 32) + pairs_with_few_images("by", (3, 3), 15, 32)
    + pairs_with_few_images("ab", (4, 2), 15, 32) + pairs_with_few_images("ab", (4, 4), 15, 32) + [GROUP]
)
CALLS = (
    (greatest_clouds, ()), (is_cloud, (None,)), (are_clouded, (None, None)), (are_blurred, ()), (blur, ()),
    (clear_paper, ()), (recipe_for, (None,)),
)


def slow_clouds(one, other):
    """All clouds of two machines as a set of frozensets, built until nothing new comes, straight from [0.13]."""
    found = {frozenset([slow_image(one, other, word)]) for word in ("",) + tuple(one.letters)}
    while True:
        new = set(found)
        new |= {frozenset(slow_cloud_product(left, right)) for left in found for right in found}
        new |= {frozenset(slow_often(cloud)) for cloud in found}
        new |= {
            frozenset(part) for cloud in found for size in range(1, len(cloud))
            for part in itertools.combinations(cloud, size)
        }
        if new == found:
            return found
        found = new


KNOWN = {}


def clouds_of(one, other):
    if (id(one), id(other)) not in KNOWN:
        KNOWN[id(one), id(other)] = slow_clouds(one, other)
    return KNOWN[id(one), id(other)]


class TinyTest(unittest.TestCase):

    def test_greatest_clouds(self):
        for one, other in TINY:
            found = clouds_of(one, other)
            told = [tuple(sorted(cloud)) for cloud in found if not any(cloud < more for more in found)]
            self.assertEqual(greatest_clouds(one, other), tuple(sorted(told)))

    def test_is_cloud(self):
        for one, other in TINY:
            found = clouds_of(one, other)
            maps = sorted(slow_images(one, other))
            for size in range(1, len(maps) + 1):
                for cloud in itertools.combinations(maps, size):
                    self.assertIs(is_cloud(one, other, cloud), frozenset(cloud) in found)
            for leads in all_maps(one, other)[:100]:
                self.assertIs(is_cloud(one, other, (leads,)), leads in maps)

    def test_are_clouded(self):
        for one, other in TINY:
            found = clouds_of(one, other)
            words = first_words(one, other)
            for first, second in itertools.product(words, repeat=2):
                told = any(first in cloud and second in cloud for cloud in found)
                self.assertIs(are_clouded(one, other, words[first], words[second]), told)

    def test_blurs_and_clear_papers(self):
        kinds = set()
        for one, other in TINY:
            told = any(slow_is_bad(one, other, cloud) for cloud in clouds_of(one, other))
            kinds.add((told, (one & other).is_empty))
            self.assertIs(are_blurred(one, other), told)
            self.assertIs(blur(one, other) is not None, told)
            self.assertIs(clear_paper(one, other) is None, told)
        self.assertTrue({(True, True), (True, False), (False, True)} <= kinds)

    def test_recipe_for(self):
        for one, other in TINY:
            found = clouds_of(one, other)
            maps = sorted(slow_images(one, other))
            for size in range(1, len(maps) + 1):
                for cloud in itertools.combinations(maps, size):
                    if frozenset(cloud) in found:
                        recipe = recipe_for(one, other, cloud)
                        self.assertIs(is_recipe(one, other, recipe), True)
                        self.assertTrue(set(cloud) <= slow_recipe_clouds(one, other, recipe)[-1])
                    else:
                        with self.assertRaises(Refused) as caught:
                            recipe_for(one, other, cloud)
                        self.assertEqual(caught.exception.reason, cloud)


class WiderTest(unittest.TestCase):

    def test_greatest_clouds_are_clouds(self):
        for one, other in WIDER:
            for cloud in greatest_clouds(one, other):
                recipe = recipe_for(one, other, cloud)
                self.assertIs(is_recipe(one, other, recipe), True)
                self.assertLessEqual(len(recipe), 400)
                # No cloud is greater than a greatest one.
                self.assertEqual(slow_recipe_clouds(one, other, recipe)[-1], set(cloud))
                self.assertIs(is_cloud(one, other, cloud), True)

    def test_greatest_clouds_make_no_others(self):
        for one, other in WIDER + TINY:
            clouds = [set(cloud) for cloud in greatest_clouds(one, other)]
            made = [{leads} for leads in slow_images(one, other)]
            made += [slow_cloud_product(left, right) for left in clouds for right in clouds]
            made += [slow_often(cloud) for cloud in clouds]
            for cloud in made:
                self.assertTrue(any(cloud <= more for more in clouds))
            for left, right in itertools.permutations(clouds, 2):
                self.assertFalse(left <= right)

    def test_form_of_greatest_clouds(self):
        for one, other in WIDER + TINY:
            clouds = greatest_clouds(one, other)
            self.assertEqual(clouds, tuple(sorted(set(clouds))))
            for cloud in clouds:
                self.assertEqual(cloud, tuple(sorted(set(cloud))))
            self.assertLessEqual(len(clouds), 400)

    def test_just_one_of_a_blur_and_a_clear_paper(self):
        found = set()
        for one, other in WIDER + TINY:
            first, second = blur(one, other), clear_paper(one, other)
            found.add(first is None)
            self.assertIs(first is None, second is not None)
            self.assertIs(are_blurred(one, other), second is None)
            if first is None:
                self.assertIs(is_clear_paper(one, other, second), True)
                self.assertLessEqual(len(second), 400)
                self.assertIs(is_clear_paper(one, other, greatest_clouds(one, other)), True)
            else:
                self.assertIs(is_blur(one, other, first), True)
                self.assertTrue(slow_is_bad(one, other, slow_recipe_clouds(one, other, first)[-1]))
                self.assertLessEqual(len(first), 400)
                self.assertIs(is_clear_paper(one, other, greatest_clouds(one, other)), False)
        self.assertEqual(len(found), 2)

    def test_parts_of_clouds(self):
        for one, other in WIDER[::3]:
            clouds = greatest_clouds(one, other)
            for cloud in clouds[::5]:
                for part in (cloud[1:], cloud[::2]):
                    if part:
                        self.assertIs(is_cloud(one, other, part), True)
                        recipe = recipe_for(one, other, part)
                        self.assertTrue(set(part) <= slow_recipe_clouds(one, other, recipe)[-1])
            for leads in slow_images(one, other):
                for cloud in clouds:
                    more = tuple(sorted(set(cloud + (leads,))))
                    told = any(set(more) <= set(greatest) for greatest in clouds)
                    self.assertIs(is_cloud(one, other, more), told)

    def test_repeated_words_are_clouded(self):
        for one, other in WIDER + TINY:
            clouds = greatest_clouds(one, other)
            for leads in slow_images(one, other):
                number, many = rounds(one, other, leads)
                powers = [leads]
                while len(powers) < number + many:
                    powers.append(slow_product(powers[-1], leads))
                late = tuple(sorted(set(powers[number - 1:])))
                self.assertIs(is_cloud(one, other, late), True)
                self.assertTrue(any(set(late) <= set(cloud) for cloud in clouds))

    def test_still_machines(self):
        found = 0
        for one, other in WIDER + TINY + list(itertools.product(all_machines("ab", 2)[::3], repeat=2)):
            if is_still(one) and is_still(other):
                found += 1
                self.assertEqual({len(cloud) for cloud in greatest_clouds(one, other)}, {1})
        self.assertGreater(found, 50)

    def test_calm_machines(self):
        found = 0
        for one, other in itertools.product(all_machines("ab", 2)[::3] + some_machines("ab", 3, 10), repeat=2):
            if is_calm(one) and len(slow_images(one, other)) <= 32:
                found += 1
                self.assertIs(are_blurred(one, other), not (one & other).is_empty)
                self.assertIs(are_blurred(other, one), not (one & other).is_empty)
        self.assertGreater(found, 100)

    def test_blurred_the_other_way_round(self):
        for one, other in WIDER + TINY:
            told = are_blurred(one, other)
            self.assertIs(are_blurred(other, one), told)
            new = dict(zip(one.letters, "zc"))
            self.assertIs(are_blurred(renamed(one, new), renamed(other, new)), told)
            back, other_back = mirrored(one), mirrored(other)
            if len(slow_images(back, other_back)) <= 32:
                self.assertIs(are_blurred(back, other_back), told)

    def test_no_box_tells_blurred_machines_apart(self):
        boxes = {"ab": all_boxes("ab", 2) + some_boxes("ab", 3, 30) + some_boxes("ab", 4, 30), "a": all_boxes("a", 3)}
        boxes["by"] = all_boxes("by", 2) + some_boxes("by", 3, 30)
        found = 0
        for one, other in WIDER + TINY:
            told = [box for box in boxes[one.letters] if tells_apart(one, other, box)]
            found += len(told)
            self.assertFalse(told and are_blurred(one, other))
        self.assertGreater(found, 100)

    def test_a_group(self):
        self.assertEqual(greatest_clouds(*GROUP), (tuple(sorted(slow_images(*GROUP))),))
        self.assertIs(is_blur(*GROUP, blur(*GROUP)), True)
        self.assertIs(are_clouded(*GROUP, "a" * 399, "ab" * 50000), True)

    def test_just_so_many_images_as_are_let(self):
        line = Machine("a", ((0,),), (0,))
        self.assertEqual(len(greatest_clouds(chain(32), line)), 32)
        self.assertEqual([len(clear_paper(chain(32), chain(10))), blur(chain(32), chain(10))], [32, None])
        self.assertEqual(len(blur(chain(32), chain(32))), 1)
        for one, other in ((chain(33), line), (MANY, EVEN)):
            for call, rest in (
                (greatest_clouds, ()), (is_cloud, (None,)), (is_cloud, ((all_maps(EVEN, ODD)[0],),)),
                (are_clouded, ("a", "aa")), (are_blurred, ()), (blur, ()), (clear_paper, ()),
                (recipe_for, ((slow_image(one, other, "a"),),)),
            ):
                with self.assertRaises(TooMany) as caught:
                    call(one, other, *rest)
                self.assertEqual(caught.exception.limit, 32)


class ErrorsTest(unittest.TestCase):

    def test_no_machine(self):
        for value in NO_MACHINES:
            if not isinstance(value, Machine):
                for call, rest in CALLS:
                    for one, other in ((value, EVEN), (EVEN, value), (value, value), (value, ALONE), (MANY, value)):
                        with self.assertRaises(InvalidMachine):
                            call(one, other, *rest)

    def test_other_letters(self):
        for call, rest in CALLS:
            for one, other in ((EVEN, ALONE), (ALONE, MANY), (EVEN, Machine("ac", ((0, 0),)))):
                with self.assertRaises(InvalidOperation):
                    call(one, other, *rest)

    def test_wrong_words(self):
        for one in (EVEN, MANY):
            for word in NO_WORDS:
                for first, second in ((word, "a"), ("a", word), (word, "c"), ("c", word)):
                    with self.assertRaises(InvalidWord):
                        are_clouded(one, ODD, first, second)
            for first, second in (("c", "a"), ("a", "c"), ("abz", "abz")):
                with self.assertRaises(InvalidOperation):
                    are_clouded(one, ODD, first, second)

    def test_wrong_clouds(self):
        wrong = tuple((value,) for value in NO_MAPS) + (
            (), STAY, [STAY], (PRESS, STAY), (STAY, STAY), {STAY: 1}, ((STAY,),), (STAY, None), (((False, 1), (0, 1)),),
        )
        for value in wrong + tuple(value for value in NO_MACHINES if value != ((1, 0), (0, 1))):
            self.assertIs(is_cloud(EVEN, ODD, value), False)
            for one in (EVEN, MANY):
                with self.assertRaises(InvalidOperation):
                    recipe_for(one, ODD, value)
        self.assertIs(is_cloud(EVEN, ODD, ((0, 1), (1, 0))), False)

    def test_maps_that_are_no_images(self):
        for cloud in ((((0, 0), (0, 0)),), (((0, 0), (0, 0)), STAY), (STAY, ((0, 1), (1, 0)))):
            self.assertIs(is_cloud(EVEN, ODD, tuple(sorted(cloud))), False)
            with self.assertRaises(Refused) as caught:
                recipe_for(EVEN, ODD, tuple(sorted(cloud)))
            self.assertEqual(caught.exception.reason, tuple(sorted(cloud)))

    def test_nothing_is_changed(self):
        cloud = (STAY, PRESS)
        answers = [
            (greatest_clouds(EVEN, ODD), blur(EVEN, ODD), recipe_for(EVEN, ODD, cloud), clear_paper(STARTS, OTHERS))
            for _ in range(2)
        ]
        self.assertEqual(answers[0], answers[1])
        for _ in range(2):
            with self.assertRaises(Refused):
                recipe_for(STARTS, OTHERS, (slow_image(STARTS, OTHERS, "a"), slow_image(STARTS, OTHERS, "b")))


if __name__ == "__main__":
    unittest.main()
