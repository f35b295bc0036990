"""Words against boxes, against slow checks that follow the sentences of the document."""

import itertools
import random
import unittest

from neverturns.base.machines import Machine
from neverturns.cloud import pairs
from neverturns.cloud.finding import blur, greatest_clouds, recipe_for
from neverturns.cloud.pairs import against_all, is_pair, pair_against, word_for, words_against
from neverturns.cloud.papers import is_blur, recipe_clouds
from neverturns.errors import InvalidBox, InvalidMachine, InvalidNumber, InvalidOperation, TooMany
from neverturns.still.boxes import Box
from tests.support import NO_BOXES, NO_MACHINES, NO_MAPS, NO_NUMBERS, NO_WORDS
from tests.support import all_boxes, chain, pairs_with_few_images, slow_action, slow_has, slow_image, slow_words
from tests.support import some_boxes
from tests.test_clouds import some_recipe

EVEN = Machine("ab", ((1, 0), (0, 1)), (0,))
ODD = Machine("ab", ((1, 0), (0, 1)), (1,))
STARTS = Machine("ab", ((1, 2), (1, 1), (2, 2)), (1,))
OTHERS = Machine("ab", ((1, 2), (1, 1), (2, 2)), (0, 2))
ALONE = Machine("a", ((0,),), (0,))
LATCH = Box("ab", ((1, 0), (1, 1)))
STAY = ((0, 1), (0, 1))
PRESS = ((1, 0), (1, 0))
TURNED = (("word", "a"), ("often", 0))
# Each word for it has more than 100,000 letters, at each number.
LONG = (("word", "a" * 60),) + tuple(("both", at, at) for at in range(11))
LONG_BLUR = LONG + (("word", "a"), ("both", 11, 12), ("often", 13))
BOXES = all_boxes("ab", 1) + all_boxes("ab", 2)[::2] + some_boxes("ab", 3, 10) + some_boxes("ab", 4, 10)
PAIRS = (
    pairs_with_few_images("ab", (2, 2), 12, 32) + pairs_with_few_images("ab", (3, 2), 12, 32)
    + pairs_with_few_images("ab", (3, 3), 12, 32) + pairs_with_few_images("ab", (4, 4), 12, 32)
)


def blurred_pairs():
    """Pairs of machines without a common word that no box tells apart, with a blur of each."""
    found = [(EVEN, ODD, blur(EVEN, ODD)), (EVEN, ODD, TURNED)]
    dice = random.Random(1)
    while len(found) < 25:
        size = dice.choice((2, 3, 4))
        table = tuple(tuple(dice.randrange(size) for _ in "ab") for _ in range(size))
        ends = [dice.randrange(3) for _ in range(size)]
        one, other = [Machine("ab", table, tuple(at for at in range(size) if ends[at] == kind)) for kind in (0, 1)]
        if len({slow_image(one, other, word) for word in slow_words("ab", 7)}) <= 25 and (one & other).is_empty:
            made = blur(one, other)
            if made is not None:
                found.append((one, other, made))
    return found


BLURRED = blurred_pairs()


def slow_is_word_for(recipe, at, number, word, known):
    """Whether a word is one for a step at a number, straight from [10.1], by all ways to cut it."""
    if (at, word) not in known:
        step = recipe[at]
        if step[0] == "word":
            told = word == step[1]
        elif step[0] == "both":
            told = any(
                slow_is_word_for(recipe, step[1], number, word[:cut], known)
                and slow_is_word_for(recipe, step[2], number, word[cut:], known) for cut in range(len(word) + 1)
            )
        else:
            # After each beginning: of how many words it can consist, at most so many as asked.
            many = [set() for _ in range(len(word) + 1)]
            many[0].add(0)
            empty = slow_is_word_for(recipe, step[1], number, "", known)
            for begin in range(len(word) + 1):
                if empty and many[begin]:
                    many[begin].add(number)
                for end in range(begin + 1, len(word) + 1):
                    if many[begin] and slow_is_word_for(recipe, step[1], number, word[begin:end], known):
                        many[end] |= {min(number, count + 1) for count in many[begin]}
            told = number in many[len(word)]
        known[at, word] = told
    return known[at, word]


def is_word_for(recipe, number, word):
    return slow_is_word_for(recipe, len(recipe) - 1, number, word, {})


class WordForTest(unittest.TestCase):

    def check(self, one, other, recipe, numbers):
        cloud = recipe_clouds(one, other, recipe)[-1]
        for leads in cloud[:3] + cloud[-2:]:
            for number in numbers:
                word = word_for(one, other, recipe, leads, number)
                self.assertIs(type(word), str)
                self.assertEqual(slow_image(one, other, word), leads)
                self.assertLessEqual(len(word), 100000)
                if len(word) <= 40:
                    self.assertTrue(is_word_for(recipe, number, word), (recipe, number, word))

    def test_constants(self):
        self.assertEqual((pairs.MAX_LENGTH, pairs.MAX_NUMBER), (100000, 6))

    def test_the_slow_check(self):
        told = {word: is_word_for(TURNED, 3, word) for word in slow_words("ab", 5)}
        self.assertEqual([word for word in told if told[word]], ["aaa", "aaaa", "aaaaa"])
        recipe = (("word", "ab"), ("word", "b"), ("both", 0, 1), ("often", 2))
        self.assertIs(is_word_for(recipe, 2, "abbabb"), True)
        self.assertIs(is_word_for(recipe, 3, "abbabb"), False)
        self.assertIs(is_word_for((("word", ""), ("often", 0)), 6, ""), True)

    def test_some_recipes(self):
        dice = random.Random(2)
        for one, other in PAIRS:
            for _ in range(6):
                recipe = some_recipe("ab", dice.randint(1, 6), dice)
                if sum(step[0] == "often" for step in recipe) <= 3:
                    self.check(one, other, recipe, (1, 2, 3))

    def test_found_recipes(self):
        for one, other in PAIRS[::3]:
            for cloud in greatest_clouds(one, other)[:6]:
                self.check(one, other, recipe_for(one, other, cloud), (1, 2, 6))

    def test_single_steps(self):
        self.assertEqual(word_for(EVEN, ODD, (("word", "ab"),), PRESS, 6), "ab")
        self.assertEqual(word_for(EVEN, ODD, (("word", ""),), STAY, 1), "")
        self.assertEqual(word_for(EVEN, ODD, (("word", ""), ("often", 0), ("both", 1, 1)), STAY, 6), "")
        self.assertEqual(word_for(EVEN, ODD, (("word", "ab"), ("word", "b"), ("both", 1, 0)), PRESS, 6), "bab")
        for number in range(1, 7):
            for leads in (STAY, PRESS):
                word = word_for(EVEN, ODD, TURNED, leads, number)
                self.assertEqual(word, "a" * len(word))
                self.assertGreaterEqual(len(word), number)
                self.assertEqual(slow_image(EVEN, ODD, word), leads)

    def test_words_of_sixty_letters(self):
        recipe = (("word", "ab" * 30), ("word", "a" * 59), ("both", 0, 1), ("often", 2))
        self.check(EVEN, ODD, recipe, (1, 6))

    def test_many_steps(self):
        recipe = (("word", "a"),) + tuple(("both", at, 0) for at in range(398)) + (("often", 398),)
        self.assertEqual(word_for(EVEN, ODD, recipe[:399], PRESS, 1), "a" * 399)
        self.assertEqual(len(word_for(EVEN, ODD, recipe, PRESS, 6)), 399 * 7)
        flat = (("word", "a"),) + tuple(("often", at) for at in range(399))
        self.assertEqual(len(word_for(EVEN, ODD, flat, PRESS, 1)), 1)

    def test_too_many_letters(self):
        for number in (1, 6):
            self.assertEqual(word_for(EVEN, ODD, LONG[:11], STAY, number), "a" * 61440)
            with self.assertRaises(TooMany) as caught:
                word_for(EVEN, ODD, LONG, STAY, number)
            self.assertEqual(caught.exception.limit, 100000)
        exact = [("word", "a" * 50)]
        for _ in range(11):
            exact.append(("both", len(exact) - 1, len(exact) - 1))
        # The steps 10, 9, 8, 7, 6 and 4 have 51,200, 25,600, 12,800, 6,400, 3,200 and 800 letters: just 100,000.
        for step in (9, 8, 7, 6, 4):
            exact.append(("both", len(exact) - 1 if len(exact) > 12 else 10, step))
        exact.append(("word", "a"))
        exact.append(("both", 16, 17))
        self.assertEqual(len(word_for(EVEN, ODD, tuple(exact[:17]), STAY, 1)), 100000)
        self.assertEqual(len(word_for(EVEN, ODD, tuple(exact[:17]) + (("often", 16),), STAY, 1)), 100000)
        with self.assertRaises(TooMany):
            word_for(EVEN, ODD, tuple(exact[:17]) + (("often", 16),), STAY, 2)
        with self.assertRaises(TooMany):
            word_for(EVEN, ODD, tuple(exact), PRESS, 1)
        nested = (("word", "a" * 60), ("often", 0), ("often", 1), ("often", 2), ("often", 3), ("often", 4))
        self.assertEqual(len(word_for(EVEN, ODD, nested, STAY, 2)), 60 * 2 ** 5)
        with self.assertRaises(TooMany):
            word_for(EVEN, ODD, nested, STAY, 6)

    def test_no_shorter_word_is_needed(self):
        # The words of both oftens can be cut down by images that are in neither cloud.
        four = Machine("a", ((1,), (2,), (3,), (0,)), (0,))
        recipe = (("word", "a"), ("often", 0), ("often", 1), ("often", 2))
        for leads in recipe_clouds(four, four, recipe)[-1]:
            word = word_for(four, four, recipe, leads, 6)
            self.assertEqual(slow_image(four, four, word), leads)
            self.assertLess(len(word), 6 ** 3 + 4)

    def test_wrong_maps(self):
        wrong = (((0, 0), (0, 0)), ((0, 1), (1, 0)), (STAY,), (STAY, PRESS))
        for leads in NO_MAPS + wrong:
            with self.assertRaises(InvalidOperation):
                word_for(EVEN, ODD, TURNED, leads, 1)
        for leads in (STAY, ((False, True), (0, 1)), ((True, False), (True, False))):
            with self.assertRaises(InvalidOperation):
                word_for(EVEN, ODD, TURNED[:1], leads, 1)

    def test_machines_with_many_images(self):
        many = Machine("ab", ((3, 1), (2, 3), (0, 1), (2, 0)), (0,))
        recipe = (("word", "a"), ("word", "b"), ("both", 0, 1), ("often", 2), ("often", 0), ("both", 3, 4))
        self.check(many, many, recipe, (1, 2, 3))
        self.check(chain(40), chain(50), (("word", "a"), ("often", 0)), (1, 6))


class AgainstTest(unittest.TestCase):

    def test_words_against(self):
        for one, other, made in BLURRED:
            for number in range(1, 7):
                found = words_against(one, other, made, number)
                self.assertIs(type(found), tuple)
                first, second = found
                self.assertTrue(slow_has(one, first) and slow_has(other, second))
                for word in found:
                    if len(word) <= 30:
                        self.assertTrue(is_word_for(made, number, word))
                for box in BOXES:
                    if len(box) <= number:
                        self.assertEqual(slow_action(box.table, "ab", first), slow_action(box.table, "ab", second))

    def test_pair_against(self):
        boxes = BOXES + [Box.window("ab", 4), Box.caps("ab", 9), Box.window("ab", 2) & Box.caps("ab", 3)]
        for one, other, made in BLURRED:
            for box in boxes:
                pair = pair_against(one, other, made, box)
                first, second = pair
                self.assertTrue(slow_has(one, first) and slow_has(other, second))
                self.assertEqual(slow_action(box.table, "ab", first), slow_action(box.table, "ab", second))
                self.assertIs(is_pair(one, other, box, pair), True)

    def test_boxes_that_need_more_for_a_product_than_for_its_parts(self):
        box = Box("ab", ((1, 0), (1, 2), (3, 2), (3, 3)))
        self.assertEqual([box.lag("a"), box.lag("b"), box.lag("ab"), box.lag("ba")], [1, 1, 2, 2])
        for made in (
            (("word", "a"), ("word", "b"), ("both", 0, 1), ("often", 2)),
            (("word", "b"), ("word", "a"), ("both", 0, 1), ("often", 2)),
            (("word", "b"), ("word", "a"), ("both", 1, 0), ("often", 2), ("both", 3, 0)),
        ):
            pair = pair_against(EVEN, ODD, made, box)
            self.assertEqual(slow_action(box.table, "ab", pair[0]), slow_action(box.table, "ab", pair[1]))
            self.assertIs(is_pair(EVEN, ODD, box, pair), True)

    def test_words_are_as_short_as_they_can_be(self):
        # So the words are too long only if there are no others.
        recipes = (TURNED, TURNED + (("word", "b"), ("both", 1, 2), ("often", 3)))
        recipes += (TURNED + (("both", 1, 1), ("both", 2, 0)),)
        recipes += ((("word", "aab"), ("word", "a"), ("often", 1), ("both", 2, 0), ("often", 3)),)
        for one, other, made in BLURRED[2:] + [(EVEN, ODD, recipe) for recipe in recipes]:
            for number in (1, 2, 3):
                found = words_against(one, other, made, number)
                for machine, word in zip((one, other), found):
                    shorter = [less for less in slow_words("ab", min(len(word) - 1, 7)) if slow_has(machine, less)]
                    self.assertFalse([less for less in shorter if is_word_for(made, number, less)])

    def test_against_all(self):
        for one, other, made in BLURRED:
            for most in (1, 3, 6):
                rows = list(against_all(one, other, made, most))
                self.assertEqual([row[0] for row in rows], list(range(1, most + 1)))
                for number, first, second in rows:
                    self.assertTrue(slow_has(one, first) and slow_has(other, second))
                    self.assertEqual([type(row) for row in rows], [tuple] * most)
                    for word in (first, second):
                        if len(word) <= 20:
                            self.assertTrue(is_word_for(made, number, word))

    def test_common_words(self):
        made = blur(STARTS, EVEN)
        self.assertIs(is_pair(STARTS, EVEN, LATCH, pair_against(STARTS, EVEN, made, LATCH)), True)
        self.assertEqual(words_against(STARTS, EVEN, (("word", "aa"),), 6), ("aa", "aa"))

    def test_too_many_letters(self):
        self.assertIs(is_blur(EVEN, ODD, LONG_BLUR), True)
        for call in (
            lambda: words_against(EVEN, ODD, LONG_BLUR, 1), lambda: pair_against(EVEN, ODD, LONG_BLUR, LATCH),
            lambda: next(against_all(EVEN, ODD, LONG_BLUR, 1)),
        ):
            with self.assertRaises(TooMany) as caught:
                call()
            self.assertEqual(caught.exception.limit, 100000)

    def test_too_many_letters_come_with_the_first_value(self):
        made = (("word", "a" * 59), ("often", 0), ("often", 1), ("often", 2), ("often", 3), ("often", 4))
        self.assertEqual(len(list(against_all(EVEN, ODD, made, 2))), 2)
        rows = against_all(EVEN, ODD, made, 6)
        with self.assertRaises(TooMany):
            next(rows)

    def test_is_pair(self):
        found = {True: 0, False: 0}
        words = slow_words("ab", 3)
        for one, other, _ in BLURRED[::4]:
            for box in BOXES[::3]:
                for first, second in itertools.product(words, repeat=2):
                    told = slow_has(one, first) and slow_has(other, second)
                    told = told and slow_action(box.table, "ab", first) == slow_action(box.table, "ab", second)
                    found[told] += 1
                    self.assertIs(is_pair(one, other, box, (first, second)), told)
        self.assertGreater(found[True], 50)

    def test_each_place_counts(self):
        box = Box("ab", ((0, 0), (1, 0), (2, 1)))
        self.assertEqual((box("bb"), box("a")), (0, 0))
        self.assertIs(is_pair(EVEN, ODD, box, ("bb", "a")), False)
        self.assertIs(is_pair(EVEN, ODD, box, ("bb", "bba")), True)

    def test_is_pair_of_long_words(self):
        self.assertIs(is_pair(EVEN, ODD, Box.caps("ab", 9), ("ab" * 50000, "ab" * 49999)), True)
        self.assertIs(is_pair(EVEN, ODD, LATCH, ("ab" * 50000, "ab" * 49998)), False)

    def test_is_pair_refuses_no_value(self):
        wrong = (
            ("aa",), ("aa", "a", "a"), ["aa", "a"], ("aa", None), (None, "a"), ("aa", True), ("aa", ("a",)),
            ("aac", "a"),
            ("aa", "ac"), ("AA", "a"), {"aa": "a"}, ("a", "aa"), ("aa", "aa"), ("", "a"), (["aa"], "a"), (EVEN, ODD),
        )
        for value in wrong + NO_WORDS:
            self.assertIs(is_pair(EVEN, ODD, LATCH, value), False)


def first_of_all(one, other, made, most):
    return next(against_all(one, other, made, most))


class ErrorsTest(unittest.TestCase):

    def test_no_machine(self):
        for value in NO_MACHINES:
            if not isinstance(value, Machine):
                for one, other in ((value, EVEN), (EVEN, value), (ALONE, value)):
                    for call, rest in (
                        (word_for, (TURNED, STAY, 1)), (word_for, (None, None, None)), (words_against, (TURNED, 1)),
                        (words_against, (None, None)), (pair_against, (TURNED, LATCH)), (pair_against, (None, None)),
                        (is_pair, (LATCH, None)), (is_pair, (None, None)), (first_of_all, (TURNED, 1)),
                        (first_of_all, (None, None)),
                    ):
                        with self.assertRaises(InvalidMachine):
                            call(one, other, *rest)

    def test_no_box(self):
        for value in NO_BOXES + (EVEN,):
            for one in (EVEN, ALONE):
                with self.assertRaises(InvalidBox):
                    pair_against(one, ODD, None, value)
                with self.assertRaises(InvalidBox):
                    pair_against(one, ODD, TURNED, value)
                with self.assertRaises(InvalidBox):
                    is_pair(one, ODD, value, ("aa", "a"))

    def test_wrong_numbers(self):
        for number in NO_NUMBERS + (-1, 0, 7, 10 ** 11, 10 ** 39, True, False):
            for one, made in ((EVEN, TURNED), (ALONE, TURNED), (EVEN, None), (EVEN, LONG_BLUR)):
                for call in (
                    lambda: word_for(one, ODD, made, STAY, number), lambda: word_for(one, ODD, made, None, number),
                    lambda: words_against(one, ODD, made, number), lambda: first_of_all(one, ODD, made, number),
                ):
                    with self.assertRaises(InvalidNumber) as caught:
                        call()
                    self.assertIs(caught.exception.value, number)

    def test_other_letters(self):
        for one, other in ((EVEN, ALONE), (ALONE, ODD), (EVEN, Machine("ac", ((1, 0), (0, 1)), (1,)))):
            for made in (TURNED, None, LONG_BLUR):
                for call in (
                    lambda: word_for(one, other, made, STAY, 1), lambda: words_against(one, other, made, 1),
                    lambda: pair_against(one, other, made, LATCH), lambda: first_of_all(one, other, made, 1),
                    lambda: is_pair(one, other, LATCH, None),
                ):
                    with self.assertRaises(InvalidOperation):
                        call()
        for box in (Box("a", ((0,),)), Box("ac", ((0, 0),))):
            with self.assertRaises(InvalidOperation):
                pair_against(EVEN, ODD, TURNED, box)
            with self.assertRaises(InvalidOperation):
                is_pair(EVEN, ODD, box, ("aa", "a"))

    def test_no_recipe_and_no_blur(self):
        wrong = (
            (), (("often", 0),), (("word", "c"),), (("word", "a" * 61),), (("word", "a"), ("often", 1)),
            TURNED + (None,),
            list(TURNED), (("word", "a"), ("often", False)), (("word", "a"), ["often", 0]), TURNED * 201, EVEN,
        )
        for value in wrong + NO_MACHINES:
            with self.assertRaises(InvalidOperation):
                word_for(EVEN, ODD, value, STAY, 1)
        for value in wrong + NO_MACHINES + (TURNED[:1], LONG, TURNED + (("word", "a"),)):
            for call in (
                lambda: words_against(EVEN, ODD, value, 1), lambda: pair_against(EVEN, ODD, value, LATCH),
                lambda: first_of_all(EVEN, ODD, value, 1),
            ):
                with self.assertRaises(InvalidOperation):
                    call()
        with self.assertRaises(InvalidOperation):
            words_against(STARTS, OTHERS, TURNED, 1)

    def test_errors_come_with_the_first_value(self):
        for arguments in (
            (None, ODD, TURNED, 1), (EVEN, ODD, TURNED, 0), (EVEN, ALONE, TURNED, 1), (EVEN, ODD, None, 1),
        ):
            made = against_all(*arguments)
            with self.assertRaises((InvalidMachine, InvalidNumber, InvalidOperation)):
                next(made)

    def test_nothing_is_changed(self):
        answers = [
            (word_for(EVEN, ODD, TURNED, STAY, 3), words_against(EVEN, ODD, TURNED, 3),
             pair_against(EVEN, ODD, TURNED, LATCH),
             list(against_all(EVEN, ODD, TURNED, 3)))
            for _ in range(2)
        ]
        self.assertEqual(answers[0], answers[1])
        self.assertEqual(TURNED, (("word", "a"), ("often", 0)))


if __name__ == "__main__":
    unittest.main()
