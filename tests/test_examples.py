"""The examples of the document, as they are printed there."""

import unittest

from neverturns.base.joined import are_same, behind, chained, common_word, first_difference, mirrored, of_words
from neverturns.base.joined import renamed, repeated
from neverturns.base.machines import Machine
from neverturns.base.words import all_words, are_powers, exponent, is_letters, is_word, power, root
from neverturns.cloud.finding import are_blurred, are_clouded, blur, clear_paper, greatest_clouds, is_cloud, recipe_for
from neverturns.cloud.images import first_words, hits, image, images, is_image, is_map, product, rounds
from neverturns.cloud.pairs import against_all, is_pair, pair_against, word_for, words_against
from neverturns.cloud.papers import cloud_power, is_bad, is_blur, is_clear_paper, is_recipe, often, often_number
from neverturns.cloud.papers import recipe_clouds
from neverturns.errors import GoesRound, Refused
from neverturns.still.boxes import Box
from neverturns.still.sights import alike_pair, apart_paper, is_alike_pair, is_apart_paper, places, seen_by
from neverturns.still.sights import tells_apart, word_to
from neverturns.still.turns import actions, first_turn, is_calm, is_still, is_turn, settles, word_of

EVEN = Machine("ab", ((1, 0), (0, 1)), (0,))
ODD = Machine("ab", ((1, 0), (0, 1)), (1,))
STARTS = Machine("ab", ((1, 2), (1, 1), (2, 2)), (1,))
OTHERS = Machine("ab", ((1, 2), (1, 1), (2, 2)), (0, 2))
CLOSES = Machine("ab", ((1, 0), (1, 0)), (1,))
LATER = Machine("ab", ((0, 1), (0, 1)), (1,))
LATCH = Box("ab", ((1, 0), (1, 1)))
PAIRS = repeated(of_words("ab", ("ab",)))


class ExamplesTest(unittest.TestCase):

    def test_what_the_values_are(self):
        for word in all_words("ab", 6):
            self.assertEqual(word in EVEN, word.count("a") % 2 == 0)
            self.assertEqual(word in ODD, word.count("a") % 2 == 1)
            self.assertEqual(word in STARTS, word.startswith("a"))
            self.assertEqual(word in OTHERS, not word.startswith("a"))
            self.assertEqual(word in CLOSES, word.endswith("a"))
            self.assertEqual(word in LATER, word.endswith("b"))
            self.assertEqual(LATCH(word) == 1, "a" in word)

    def test_words(self):
        self.assertEqual(
            repr([
                is_letters("ba"), is_word("aB"), list(all_words("ab", 1)), power("ab", 3), root("abab"),
                exponent("abab"), exponent(""),
            ]),
            "[False, False, ['', 'a', 'b'], 'ababab', 'ab', 2, 0]",
        )
        self.assertEqual(
            repr([are_powers("aa", "aaa"), are_powers("ab", "ba"), are_powers("", "b")]),
            "[True, False, True]",
        )

    def test_machines(self):
        self.assertEqual(
            repr([
                list(STARTS.words(2)), STARTS.after("ba"), "ab" in STARTS, EVEN.first_word(), len(STARTS),
                str(STARTS), EVEN.after("a", times=10 ** 11),
            ]),
            "[['a', 'aa', 'ab'], 2, True, '', 3, 'machine of 3 states, 1 ends', 0]",
        )
        self.assertEqual(
            repr([
                (~STARTS) == OTHERS.least(), (EVEN | ODD).table, (EVEN | ODD).is_full,
                (STARTS & CLOSES).first_word(), list((STARTS - CLOSES).words(3)),
            ]),
            "[True, ((0, 0),), True, 'a', ['ab', 'aab', 'abb']]",
        )

    def test_joined(self):
        self.assertEqual(
            repr([
                list(PAIRS.words(5)), list(mirrored(PAIRS).words(3)),
                list(chained(of_words("ab", ("a", "b")), PAIRS).words(3)), behind(PAIRS, "a").first_word(),
            ]),
            "[['', 'ab', 'abab'], ['', 'ba'], ['a', 'b', 'aab', 'bab'], 'b']",
        )
        self.assertEqual(
            repr([
                common_word(EVEN, ODD), common_word(EVEN, STARTS), first_difference(EVEN, ODD),
                are_same(mirrored(STARTS), CLOSES), list(renamed(PAIRS, {"a": "z", "b": "a"}).words(2)),
            ]),
            "[None, 'aa', '', True, ['', 'za']]",
        )

    def test_turns(self):
        self.assertEqual(
            repr([
                actions(EVEN), word_of(EVEN, (1, 0)), settles(EVEN, "a"), settles(EVEN, "bb"), first_turn(EVEN),
                is_calm(EVEN | ODD),
            ]),
            "[((0, 1), (1, 0)), 'a', (0, 2), (0, 1), ('a', 0), True]",
        )
        self.assertEqual(
            repr([
                is_turn(EVEN, ("ab", 1)), is_turn(EVEN, ("aa", 0)), is_still(STARTS), settles(PAIRS, "ab"),
                settles(PAIRS, "b"),
            ]),
            "[True, False, True, (1, 1), (2, 1)]",
        )

    def test_boxes(self):
        self.assertEqual(
            repr([
                LATCH("ba"), LATCH.place("b", 1, times=5), LATCH.action("a"), LATCH.lag("a"), LATCH.first_word(1),
                LATCH.machine((1,)).first_word(), str(LATCH),
            ]),
            "[1, 1, (1, 1), 1, 'a', 'a', 'box of 2 places for ab']",
        )
        self.assertEqual(
            repr([
                Box.window("ab", 1).table, Box.caps("ab", 2)("abaa"), len(Box.window("ab", 2)),
                len((LATCH & Box.window("ab", 1)).lean()), Box.caps("a", 3).lag("a"),
            ]),
            "[((1, 2), (1, 2), (1, 2)), 5, 7, 4, 3]",
        )
        with self.assertRaises(GoesRound) as caught:
            Box("ab", ((1, 0), (0, 1)))
        self.assertEqual(caught.exception.turn, ("a", 0))

    def test_sights(self):
        self.assertEqual(
            repr([
                places(STARTS, LATCH), places(OTHERS, LATCH), tells_apart(STARTS, OTHERS, LATCH),
                word_to(OTHERS, LATCH, 1), alike_pair(STARTS, OTHERS, LATCH)[0] in STARTS,
            ]),
            "[(1,), (0, 1), False, 'ba', True]",
        )
        wide = Box("ab", ((1, 2), (1, 1), (2, 2)))
        self.assertEqual(
            repr([
                tells_apart(STARTS, OTHERS, wide), apart_paper(EVEN, ODD, wide),
                is_alike_pair(EVEN, ODD, LATCH, ("aa", "a")), seen_by(ODD, LATCH) == LATCH.machine((1,)),
            ]),
            "[True, None, True, True]",
        )
        table = ((0, 0), (1, 1), (2, 2))
        self.assertEqual(
            repr([
                is_apart_paper(STARTS, OTHERS, wide, (table, table)),
                is_apart_paper(STARTS, OTHERS, wide, (table[:2], table)),
            ]),
            "[True, False]",
        )

    def test_images(self):
        self.assertEqual(
            repr([
                image(EVEN, ODD, "ab"), images(EVEN, ODD), first_words(EVEN, ODD),
                rounds(EVEN, ODD, image(EVEN, ODD, "a")),
            ]),
            "[((1, 0), (1, 0)), (((0, 1), (0, 1)), ((1, 0), (1, 0))), "
            "{((0, 1), (0, 1)): '', ((1, 0), (1, 0)): 'a'}, (1, 2)]",
        )
        turned = image(EVEN, LATER, "a")
        self.assertEqual(
            repr([
                turned, product(EVEN, LATER, turned, turned), hits(EVEN, LATER, turned),
                is_map(EVEN, LATER, ((1, 1), (0, 1))), is_image(EVEN, LATER, ((1, 1), (0, 1))),
                len(images(EVEN, LATER)),
            ]),
            "[((1, 0), (0, 0)), ((0, 1), (0, 0)), (False, False), True, False, 5]",
        )

    def test_papers(self):
        still, press = image(EVEN, ODD, ""), image(EVEN, ODD, "a")
        self.assertEqual(
            repr([
                often(EVEN, ODD, (press,)) == (still, press), often_number(EVEN, ODD, (press,)),
                cloud_power(EVEN, ODD, (press,), 3) == (press,), is_bad(EVEN, ODD, (press,)),
                is_bad(EVEN, ODD, (still, press)),
            ]),
            "[True, 2, True, False, True]",
        )
        found = (("word", "a"), ("often", 0))
        self.assertEqual(
            repr([
                recipe_clouds(EVEN, ODD, found) == ((press,), (still, press)), is_blur(EVEN, ODD, found),
                is_blur(EVEN, ODD, found[:1]), is_recipe(EVEN, ODD, (("often", 0),)),
            ]),
            "[True, True, False, False]",
        )
        paper = tuple((image(STARTS, OTHERS, word),) for word in ("", "a", "b"))
        self.assertEqual(
            repr([
                is_clear_paper(STARTS, OTHERS, paper), is_clear_paper(STARTS, OTHERS, paper[1:]),
                is_clear_paper(EVEN, ODD, ((still, press),)),
            ]),
            "[True, False, False]",
        )

    def test_finding(self):
        still, press = image(EVEN, ODD, ""), image(EVEN, ODD, "a")
        self.assertEqual(
            repr([
                greatest_clouds(EVEN, ODD) == ((still, press),), len(greatest_clouds(STARTS, OTHERS)),
                are_blurred(EVEN, ODD), is_blur(EVEN, ODD, blur(EVEN, ODD)), blur(STARTS, OTHERS),
            ]),
            "[True, 3, True, True, None]",
        )
        self.assertEqual(
            repr([
                are_clouded(EVEN, ODD, "a", "b"), are_clouded(STARTS, OTHERS, "a", "b"), is_cloud(EVEN, ODD, (press,)),
                is_clear_paper(STARTS, OTHERS, clear_paper(STARTS, OTHERS)),
            ]),
            "[True, False, True, True]",
        )
        with self.assertRaises(Refused):
            recipe_for(STARTS, OTHERS, (image(STARTS, OTHERS, "a"), image(STARTS, OTHERS, "b")))

    def test_pairs(self):
        turned = (("word", "a"), ("often", 0))
        self.assertEqual(
            repr([
                is_pair(EVEN, ODD, LATCH, ("aa", "a")), is_pair(EVEN, ODD, LATCH, ("", "a")),
                is_pair(EVEN, ODD, LATCH, pair_against(EVEN, ODD, turned, LATCH)),
            ]),
            "[True, False, True]",
        )
        self.assertEqual(
            repr([
                len(word_for(EVEN, ODD, turned, ((1, 0), (1, 0)), 3)) % 2,
                [row[0] for row in against_all(EVEN, ODD, turned, 4)],
                min([len(word) for word in words_against(EVEN, ODD, turned, 5)]) > 4,
            ]),
            "[1, [1, 2, 3, 4], True]",
        )


if __name__ == "__main__":
    unittest.main()
