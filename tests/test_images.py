"""Maps and images, against slow checks by leading each state on."""

import itertools
import unittest

from neverturns.base.machines import Machine
from neverturns.cloud import images as module
from neverturns.cloud.images import first_words, hits, image, images, is_image, is_map, product, rounds
from neverturns.errors import InvalidMachine, InvalidOperation, InvalidWord, TooMany
from neverturns.still.boxes import Box
from tests.support import NO_MACHINES, NO_MAPS, NO_WORDS
from tests.support import all_maps, chain, pairs_with_few_images, slow_image, slow_images, slow_product, slow_words
from tests.support import some_machines

EVEN = Machine("ab", ((1, 0), (0, 1)), (0,))
ODD = Machine("ab", ((1, 0), (0, 1)), (1,))
STARTS = Machine("ab", ((1, 2), (1, 1), (2, 2)), (1,))
ALONE = Machine("a", ((0,),), (0,))
NOTHING = Machine("ab", ((0, 0),))
MANY = Machine("ab", ((3, 1), (2, 3), (0, 1), (2, 0)), (0,))
PAIRS = (
    pairs_with_few_images("a", (1, 1), 2, 32) + pairs_with_few_images("ab", (1, 1), 2, 32)
    + pairs_with_few_images("a", (4, 3), 15, 32) + pairs_with_few_images("ab", (2, 2), 20, 32)
    + pairs_with_few_images("by", (2, 3), 20, 32) + pairs_with_few_images("ab", (3, 3), 20, 32)
    + pairs_with_few_images("ab", (4, 2), 20, 32) + pairs_with_few_images("ab", (4, 4), 20, 32)
)


SMALL = [pair for pair in PAIRS if len(pair[0]) * len(pair[1]) <= 6]
# Each call, with values for all that stands behind the machines.
CALLS = (
    (image, ("a",)), (image, (None,)), (images, ()), (first_words, ()), (is_image, (None,)), (is_map, (None,)),
    (product, (None, None)), (rounds, (None,)), (hits, (None,)),
)


class ImagesTest(unittest.TestCase):

    def test_constant(self):
        self.assertEqual(module.MAX_IMAGES, 32)

    def test_image(self):
        for one, other in PAIRS:
            for word in slow_words(one.letters, 4):
                self.assertEqual(image(one, other, word), slow_image(one, other, word))

    def test_image_of_long_words(self):
        self.assertEqual(image(EVEN, STARTS, "a" * 399), ((1, 0), (1, 1, 2)))
        self.assertEqual(image(EVEN, STARTS, "ab" * 50000), ((0, 1), (1, 1, 2)))

    def test_images_and_first_words(self):
        for one, other in PAIRS:
            found = slow_images(one, other)
            self.assertEqual(images(one, other), tuple(found))
            self.assertEqual(first_words(one, other), found)
            self.assertEqual(list(first_words(one, other)), sorted(found))

    def test_images_by_all_words(self):
        for one, other in PAIRS:
            told = []
            for word in slow_words(one.letters, 5):
                if slow_image(one, other, word) not in told:
                    told.append(slow_image(one, other, word))
            self.assertEqual(list(images(one, other))[:len(told)], told)

    def test_is_image(self):
        for one, other in SMALL:
            found = slow_images(one, other)
            for leads in all_maps(one, other):
                self.assertIs(is_image(one, other, leads), leads in found)
        for value in NO_MAPS:
            self.assertIs(is_image(EVEN, ODD, value), False)

    def test_how_many_images_are_let(self):
        self.assertEqual(len(images(chain(32), Machine("a", ((0,),)))), 32)
        self.assertEqual(len(images(chain(32), chain(20))), 32)
        self.assertIs(is_image(chain(32), ALONE, ((31,) * 32, (0,))), True)
        found = 0
        for one, other in itertools.product(some_machines("ab", 4, 12), repeat=2):
            many = len(slow_images(one, other))
            for call in (images, first_words):
                if many <= 32:
                    self.assertEqual(len(call(one, other)), many)
                else:
                    found += 1
                    with self.assertRaises(TooMany) as caught:
                        call(one, other)
                    self.assertEqual(caught.exception.limit, 32)
        self.assertGreater(found, 50)
        for one, other in ((chain(33), ALONE), (MANY, NOTHING), (Box.window("ab", 4).machine(()), EVEN)):
            for call in (images, first_words, lambda one, other: is_image(one, other, None)):
                with self.assertRaises(TooMany) as caught:
                    call(one, other)
                self.assertEqual(caught.exception.limit, 32)

    def test_many_images_are_no_matter_elsewhere(self):
        self.assertEqual(image(MANY, NOTHING, "a"), ((3, 2, 0, 2), (0,)))
        leads = image(MANY, NOTHING, "ab")
        self.assertIs(is_map(MANY, NOTHING, leads), True)
        self.assertEqual(product(MANY, NOTHING, leads, leads), slow_product(leads, leads))
        self.assertEqual(hits(MANY, NOTHING, leads), (leads[0][0] == 0, False))
        self.assertEqual(rounds(MANY, NOTHING, ((1, 2, 3, 0), (0,))), (1, 4))


class MapsTest(unittest.TestCase):

    def test_is_map(self):
        for one, other in SMALL:
            for leads in all_maps(one, other):
                self.assertIs(is_map(one, other, leads), True)
        for value in NO_MAPS:
            self.assertIs(is_map(EVEN, ODD, value), False)
        self.assertIs(is_map(EVEN, STARTS, ((0, 1), (0, 1, 2))), True)
        self.assertIs(is_map(STARTS, EVEN, ((0, 1), (0, 1, 2))), False)
        self.assertIs(is_map(EVEN, STARTS, ((0, 1), (0, 1))), False)

    def test_product(self):
        for one, other in SMALL[::3]:
            for left, right in itertools.product(all_maps(one, other)[::5], all_maps(one, other)):
                self.assertEqual(product(one, other, left, right), slow_product(left, right))

    def test_product_of_images(self):
        for one, other in PAIRS:
            for left, right in itertools.product(slow_words(one.letters, 2), repeat=2):
                told = slow_image(one, other, left + right)
                self.assertEqual(product(one, other, image(one, other, left), image(one, other, right)), told)

    def test_rounds(self):
        for one, other in SMALL + PAIRS[::4]:
            maps = all_maps(one, other) if len(one) * len(other) <= 6 else images(one, other)
            for leads in maps:
                powers = [None, leads]
                for _ in range(24):
                    powers.append(slow_product(powers[-1], leads))
                told = next(
                    (number, many) for number in range(1, 12) for many in range(1, 13)
                    if powers[number] == powers[number + many]
                )
                self.assertEqual(rounds(one, other, leads), told)

    def test_rounds_at_the_edges(self):
        self.assertEqual(rounds(EVEN, ODD, ((0, 1), (0, 1))), (1, 1))
        four = Machine("ab", ((0, 0),) * 4)
        three = Machine("ab", ((0, 0),) * 3)
        self.assertEqual(rounds(four, three, ((1, 2, 3, 0), (1, 2, 0))), (1, 12))
        self.assertEqual(rounds(four, three, ((1, 2, 3, 3), (1, 2, 0))), (3, 3))
        self.assertEqual(rounds(four, three, ((1, 2, 3, 3), (1, 2, 2))), (3, 1))

    def test_hits(self):
        found = set()
        for one, other in SMALL:
            for leads in all_maps(one, other):
                told = (leads[0][0] in one.ends, leads[1][0] in other.ends)
                found.add(told)
                self.assertEqual(hits(one, other, leads), told)
                self.assertEqual([type(part) for part in hits(one, other, leads)], [bool, bool])
        self.assertEqual(len(found), 4)


class ErrorsTest(unittest.TestCase):

    def test_no_machine(self):
        for value in NO_MACHINES:
            if not isinstance(value, Machine):
                for call, rest in CALLS:
                    for one, other in ((value, EVEN), (EVEN, value), (value, value), (value, ALONE)):
                        with self.assertRaises(InvalidMachine):
                            call(one, other, *rest)

    def test_other_letters(self):
        for call, rest in CALLS:
            for one, other in ((EVEN, ALONE), (ALONE, EVEN), (MANY, ALONE), (EVEN, Machine("ac", ((0, 0),)))):
                with self.assertRaises(InvalidOperation):
                    call(one, other, *rest)

    def test_image_of_wrong_words(self):
        for word in NO_WORDS:
            with self.assertRaises(InvalidWord):
                image(EVEN, ODD, word)
        for word in ("c", "abz"):
            with self.assertRaises(InvalidOperation):
                image(EVEN, ODD, word)

    def test_wrong_maps(self):
        right = ((0, 1), (0, 1))
        for value in NO_MAPS:
            for call in (
                lambda: product(EVEN, ODD, value, right), lambda: product(EVEN, ODD, right, value),
                lambda: rounds(EVEN, ODD, value), lambda: hits(EVEN, ODD, value),
            ):
                with self.assertRaises(InvalidOperation):
                    call()

    def test_nothing_is_changed(self):
        answers = [(images(EVEN, STARTS), first_words(EVEN, STARTS)) for _ in range(2)]
        answers[0][1].clear()
        self.assertEqual(first_words(EVEN, STARTS), answers[1][1])
        self.assertEqual(images(EVEN, STARTS), answers[0][0])


if __name__ == "__main__":
    unittest.main()
