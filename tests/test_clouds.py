"""Clouds, clear papers and recipes, against slow checks that follow the sentences of the document."""

import itertools
import random
import unittest

from neverturns.base.machines import Machine
from neverturns.cloud.images import images
from neverturns.cloud.papers import cloud_power, cloud_product, is_bad, is_blur, is_clear_paper, is_cloud_of_maps
from neverturns.cloud.papers import is_recipe, often, often_number, recipe_clouds
from neverturns.errors import InvalidMachine, InvalidNumber, InvalidOperation
from tests.support import NO_MACHINES, NO_MAPS, NO_NUMBERS, NO_WORDS
from tests.support import all_maps, pairs_with_few_images, slow_cloud_product, slow_image, slow_is_bad, slow_often
from tests.support import slow_often_number, slow_power, slow_recipe_clouds

EVEN = Machine("ab", ((1, 0), (0, 1)), (0,))
ODD = Machine("ab", ((1, 0), (0, 1)), (1,))
STARTS = Machine("ab", ((1, 2), (1, 1), (2, 2)), (1,))
OTHERS = Machine("ab", ((1, 2), (1, 1), (2, 2)), (0, 2))
ALONE = Machine("a", ((0,),), (0,))
ALL = Machine("ab", ((0, 0),), (0,))
STAY = ((0, 1), (0, 1))
PRESS = ((1, 0), (1, 0))
PAIRS = (
    pairs_with_few_images("a", (1, 1), 2, 32) + pairs_with_few_images("a", (4, 3), 8, 32)
    + pairs_with_few_images("ab", (2, 2), 10, 32) + pairs_with_few_images("by", (2, 3), 10, 32)
    + pairs_with_few_images("ab", (3, 3), 10, 32) + pairs_with_few_images("ab", (4, 4), 10, 32)
)


def some_clouds(one, other, many, most, dice):
    """So many clouds of images, and of any maps."""
    sources = [list(images(one, other)), all_maps(one, other)[::1 + len(one) ** 2 * len(other)]]
    found = []
    for at in range(many):
        source = sources[at % 2]
        found.append(tuple(sorted(dice.sample(source, dice.randint(1, min(most, len(source)))))))
    return found


# Some of the kinds of [0.4] that are no cloud of maps of EVEN and ODD.
NO_CLOUDS = tuple(value for value in NO_MACHINES if value != ((1, 0), (0, 1)))
NO_CLOUDS += tuple((value,) for value in NO_MAPS)
NO_CLOUDS += (
    EVEN, (), STAY, [STAY], [STAY, PRESS], (PRESS, STAY), (STAY, STAY), (STAY, PRESS, PRESS), {STAY: 1}, ((STAY,),),
    (STAY, ((0, True), (1, 0))), (STAY, None), (((False, 1), (0, 1)),), (STAY, ((1, 0), (1, 2))), ([STAY[0], STAY[1]],),
)
CALLS = (
    (is_cloud_of_maps, (None,)), (cloud_product, (None, None)), (cloud_power, (None, None)), (often, (None,)),
    (often_number, (None,)), (is_bad, (None,)), (is_clear_paper, (None,)), (recipe_clouds, (None,)),
    (is_recipe, (None,)), (is_blur, (None,)),
)


class CloudsTest(unittest.TestCase):

    def test_is_cloud_of_maps(self):
        dice = random.Random(1)
        for one, other in PAIRS:
            for cloud in some_clouds(one, other, 8, 60, dice):
                self.assertIs(is_cloud_of_maps(one, other, cloud), True)
                self.assertIs(is_cloud_of_maps(one, other, cloud[::-1]), len(cloud) == 1)
                self.assertIs(is_cloud_of_maps(one, other, cloud + cloud[-1:]), False)
        for value in NO_CLOUDS:
            self.assertIs(is_cloud_of_maps(EVEN, ODD, value), False)
        self.assertIs(is_cloud_of_maps(STARTS, OTHERS, tuple(all_maps(STARTS, OTHERS))), True)

    def test_cloud_product(self):
        dice = random.Random(2)
        for one, other in PAIRS:
            clouds = some_clouds(one, other, 8, 20, dice)
            for left, right in itertools.product(clouds, repeat=2):
                told = tuple(sorted(slow_cloud_product(left, right)))
                self.assertEqual(cloud_product(one, other, left, right), told)

    def test_cloud_power(self):
        dice = random.Random(3)
        for one, other in PAIRS:
            for cloud in some_clouds(one, other, 4, 3, dice):
                told = set(cloud)
                for times in range(1, 61 if len(one) < 4 else 9):
                    self.assertEqual(cloud_power(one, other, cloud, times), tuple(sorted(told)))
                    told = slow_cloud_product(told, cloud)

    def test_often_and_its_number(self):
        dice = random.Random(4)
        numbers = set()
        for one, other in PAIRS:
            for cloud in some_clouds(one, other, 8, 8 if len(one) < 4 else 2, dice):
                number = slow_often_number(cloud)
                numbers.add(number)
                self.assertEqual(often_number(one, other, cloud), number)
                self.assertEqual(often(one, other, cloud), tuple(sorted(slow_often(cloud))))
        self.assertTrue({1, 2, 3, 4} <= numbers)

    def test_edges(self):
        one, other = Machine("ab", ((0, 0),) * 4), Machine("ab", ((0, 0),) * 3)
        still = (((0, 1, 2, 3), (0, 1, 2)),)
        self.assertEqual([often_number(one, other, still), often(one, other, still)], [1, still])
        turn = (((1, 2, 3, 0), (1, 2, 0)),)
        self.assertEqual(often_number(one, other, turn), 12)
        self.assertEqual(often(one, other, turn), still + turn)
        slow = (((1, 2, 3, 3), (1, 2, 0)),)
        self.assertEqual([often_number(one, other, slow), len(often(one, other, slow))], [3, 2])
        single = (((0,), (0,)),)
        self.assertEqual([often(ALL, ALL, single), cloud_power(ALL, ALL, single, 60)], [single, single])
        for cloud in (tuple(all_maps(EVEN, ODD)), tuple(all_maps(STARTS, ALL))):
            pair = (EVEN, ODD) if len(cloud) == 16 else (STARTS, ALL)
            self.assertEqual([often_number(*pair, cloud), often(*pair, cloud)], [1, cloud])
            self.assertEqual(cloud_product(*pair, cloud, cloud), cloud)

    def test_clouds_with_sixty_maps(self):
        maps = all_maps(STARTS, OTHERS)
        for cloud in (tuple(maps[:60]), tuple(maps[::12][:60])):
            self.assertEqual(len(cloud), 60)
            self.assertEqual(often(STARTS, OTHERS, cloud), tuple(sorted(slow_often(cloud))))
            self.assertEqual(cloud_product(STARTS, OTHERS, cloud, cloud), tuple(sorted(slow_power(cloud, 2))))
        four = Machine("ab", ((0, 0),) * 4)
        maps = all_maps(four, four)
        cloud = tuple(maps[7::1092])
        self.assertEqual(len(cloud), 61)
        # All these maps are made in few seconds, though they are many.
        self.assertGreater(len(often(four, four, cloud[:60])), 1000)
        self.assertGreater(len(cloud_power(four, four, cloud[:60], 60)), 1000)

    def test_is_bad(self):
        dice = random.Random(5)
        found = {True: 0, False: 0}
        for one, other in PAIRS:
            for cloud in some_clouds(one, other, 12, 6, dice):
                told = slow_is_bad(one, other, cloud)
                found[told] += 1
                self.assertIs(is_bad(one, other, cloud), told)
        self.assertGreater(min(found.values()), 50)
        self.assertIs(is_bad(EVEN, EVEN, (STAY,)), True)
        self.assertIs(is_bad(EVEN, ODD, (STAY,)), False)
        self.assertIs(is_bad(EVEN, ODD, (PRESS,)), False)
        self.assertIs(is_bad(EVEN, ODD, (STAY, PRESS)), True)


def slow_is_clear(one, other, value):
    """Whether an ascending tuple of clouds is a clear paper, straight from [8.1]."""
    if any(slow_is_bad(one, other, cloud) for cloud in value):
        return False
    asked = [{slow_image(one, other, word)} for word in ("",) + tuple(one.letters)]
    asked += [slow_cloud_product(left, right) for left in value for right in value]
    asked += [slow_often(cloud) for cloud in value]
    return all(any(wish <= set(cloud) for cloud in value) for wish in asked)


class ClearPaperTest(unittest.TestCase):

    def test_all_papers_of_few_maps(self):
        found = {True: 0, False: 0}
        pairs = [
            (Machine("a", ((1,), (1,)), (0,)), Machine("a", ((0,),), ())), (EVEN, ALL),
            (Machine("a", ((1,), (0,)), (0,)), Machine("a", ((0,),), (0,))),
            (Machine("a", ((0,),), (0,)), Machine("a", ((1,), (1,)), (1,))),
            (Machine("b", ((0,),), (0,)), Machine("b", ((1,), (1,)), ())), (Machine("ab", ((1, 0), (1, 0)), (1,)), ALL),
            (Machine("ab", ((1, 0), (1, 1)), (1,)), Machine("ab", ((0, 0),))), (EVEN, Machine("ab", ((0, 0),))),
        ]
        for one, other in pairs:
            maps = all_maps(one, other)
            clouds = sorted(cloud for size in range(1, 5) for cloud in itertools.combinations(maps, size))
            for size in range(5):
                for value in itertools.combinations(clouds, size):
                    told = slow_is_clear(one, other, value)
                    found[told] += 1
                    self.assertIs(is_clear_paper(one, other, value), told)
        self.assertGreater(found[True], 200)

    def test_greater_papers(self):
        paper = tuple((slow_image(STARTS, OTHERS, word),) for word in ("", "a", "b"))
        self.assertIs(is_clear_paper(STARTS, OTHERS, paper), True)
        for at in range(3):
            self.assertIs(is_clear_paper(STARTS, OTHERS, paper[:at] + paper[at + 1:]), False)
        # Clouds of maps that are no images, and parts of other clouds, can stand there, too.
        maps = all_maps(STARTS, OTHERS)
        more = tuple(sorted(paper + ((((1, 1, 1), (1, 1, 1)),), (((2, 2, 2), (2, 2, 2)),))))
        self.assertIs(is_clear_paper(STARTS, OTHERS, more), slow_is_clear(STARTS, OTHERS, more))
        for at in range(0, 700, 23):
            value = tuple(sorted(set(paper + ((maps[at],),))))
            self.assertIs(is_clear_paper(STARTS, OTHERS, value), slow_is_clear(STARTS, OTHERS, value))

    def test_papers_of_machines_without_words(self):
        none = Machine("ab", ((1, 2), (1, 1), (2, 2)))
        whole = (tuple(all_maps(none, EVEN)),)
        self.assertIs(is_clear_paper(none, EVEN, whole), True)
        clouds = sorted(set(whole + tuple((leads,) for leads in whole[0])))
        self.assertEqual(len(clouds), 109)
        self.assertIs(is_clear_paper(none, EVEN, tuple(clouds)), True)
        self.assertIs(is_clear_paper(none, EVEN, tuple(clouds[1:])), True)
        self.assertIs(is_clear_paper(none, EVEN, tuple(clouds[::-1])), False)

    def test_many_clouds(self):
        single = Machine("a", ((1,), (2,), (3,), (3,)))
        maps = images(single, single)
        clouds = [cloud for size in range(1, 5) for cloud in itertools.combinations(sorted(maps), size)]
        self.assertEqual(len(clouds), 15)
        self.assertIs(is_clear_paper(single, single, tuple(sorted(clouds))), True)
        window = [tuple(part for part in all_maps(EVEN, Machine("ab", ((0, 0),))))]
        parts = [cloud for size in range(1, 5) for cloud in itertools.combinations(window[0], size)]
        self.assertIs(is_clear_paper(EVEN, Machine("ab", ((0, 0),)), tuple(sorted(parts))), True)

    def test_refuses_no_value(self):
        paper = tuple((slow_image(STARTS, OTHERS, word),) for word in ("", "a", "b"))
        self.assertIs(is_clear_paper(STARTS, OTHERS, paper), True)
        wrong = (
            list(paper), paper[::-1], paper + paper[-1:], paper + ((),), ((),) + paper, {paper: 1}, (paper,), paper[0],
            tuple(list(cloud) for cloud in paper), tuple(cloud[0] for cloud in paper), (), None, 0, True, "word", EVEN,
            paper + (paper[-1] + paper[-1],), paper + (EVEN,), (None,) + paper, paper + (((2, 2, 2), (2, 2, 2)),),
            ((((False, True, 2), (0, 1, 2)),),) + paper[1:], ((((0, 1, 2), (0, True, 2)),),) + paper[1:],
        )
        for value in wrong + NO_MACHINES + NO_CLOUDS:
            self.assertIs(is_clear_paper(STARTS, OTHERS, value), False)


def some_recipe(letters, many, dice):
    steps = []
    for at in range(many):
        kind = dice.choice(("word", "both", "often")) if at else "word"
        if kind == "word":
            steps.append(("word", "".join(dice.choice(letters) for _ in range(dice.randrange(4)))))
        elif kind == "both":
            steps.append(("both", dice.randrange(at), dice.randrange(at)))
        else:
            steps.append(("often", dice.randrange(at)))
    return tuple(steps)


class RecipesTest(unittest.TestCase):

    def test_recipe_clouds(self):
        dice = random.Random(6)
        for one, other in PAIRS:
            for _ in range(5):
                recipe = some_recipe(one.letters, dice.randint(1, 7), dice)
                told = slow_recipe_clouds(one, other, recipe)
                self.assertIs(is_recipe(one, other, recipe), True)
                self.assertEqual(recipe_clouds(one, other, recipe), tuple(tuple(sorted(cloud)) for cloud in told))
                self.assertIs(is_blur(one, other, recipe), slow_is_bad(one, other, told[-1]))

    def test_edges(self):
        self.assertEqual(recipe_clouds(EVEN, ODD, (("word", ""),)), ((STAY,),))
        self.assertEqual(recipe_clouds(EVEN, ODD, (("word", "a" * 60),)), ((STAY,),))
        long = (("word", "a"),) + tuple(("both", at, 0) for at in range(399))
        self.assertIs(is_recipe(EVEN, ODD, long), True)
        self.assertEqual(recipe_clouds(EVEN, ODD, long), ((PRESS,), (STAY,)) * 200)
        self.assertIs(is_recipe(EVEN, ODD, long + (("often", 0),)), False)
        bad = long[:399] + (("often", 398),)
        self.assertIs(is_blur(EVEN, ODD, bad), True)
        self.assertIs(is_blur(EVEN, ODD, bad + (("often", 0),)), False)
        self.assertIs(is_blur(EVEN, ODD, bad[:399] + (("often", 397),)), False)

    def test_only_the_last_cloud_counts(self):
        blur = (("word", "a"), ("often", 0))
        self.assertIs(is_blur(EVEN, ODD, blur), True)
        self.assertIs(is_blur(EVEN, ODD, blur + (("word", "a"),)), False)
        self.assertIs(is_blur(EVEN, ODD, blur + (("both", 0, 1),)), True)
        self.assertIs(is_blur(STARTS, OTHERS, blur), False)

    def test_blurs_of_machines_with_many_images(self):
        many = Machine("ab", ((3, 1), (2, 3), (0, 1), (2, 0)), (0,))
        self.assertIs(is_blur(many, many, (("word", ""),)), True)
        self.assertIs(is_recipe(many, many, (("word", "ab"), ("often", 0))), True)

    def wrong_recipes(self):
        steps = (
            ("often", 0), ("both", 0, 0), ("word", "c"), ("word", "A"), ("word", "a" * 61), ("word",),
            ("word", "a", "b"), ("word", "a", "b", "c"),
            ("word", None), ("word", True), ("word", 0), ("word", ("a",)), ["word", "a"], "word", ("words", "a"),
            ("", "a"),
            ("a", "word"), (None, "a"), (True, 0), (EVEN, "a"), ("word", EVEN), (), None, EVEN, {"word": "a"},
            ("Word", "a"),
        )
        later = (
            ("often", 1), ("often", -1), ("often", False), ("often", None), ("often", "0"), ("often", (0,)), ("often",),
            ("often", 0, 0), ("often", 0, 0, 0), ("both", 0, 1), ("both", 1, 0), ("both", -1, 0), ("both", 0, -1),
            ("both", 0, False),
            ("both", False, 0), ("both", 0), ("both", 0, 0, 0), ("both", "0", "0"), ["often", 0], ("oft", 0), (0, 0),
            ("both", 0, 10 ** 39), ("often", 10 ** 39), ("both", None, 0), ("both", 0, (0,)), (("often",), 0),
            ("word", 0),
        )
        values = tuple((step,) for step in steps) + tuple((("word", "a"), step) for step in steps[2:] + later)
        return values + ((), [], [("word", "a")], ("word", "a"), {0: ("word", "a")}, "word", {("word", "a"): 1}, EVEN)

    def test_wrong_recipes(self):
        for value in self.wrong_recipes() + NO_MACHINES:
            self.assertIs(is_recipe(EVEN, ODD, value), False)
            self.assertIs(is_blur(EVEN, ODD, value), False)
            with self.assertRaises(InvalidOperation):
                recipe_clouds(EVEN, ODD, value)
        self.assertIs(is_recipe(ALONE, ALONE, (("word", "ab"),)), False)
        self.assertIs(is_recipe(ALONE, ALONE, (("word", "aa"),)), True)


class ErrorsTest(unittest.TestCase):

    def test_no_machine(self):
        for value in NO_MACHINES:
            if not isinstance(value, Machine):
                for call, rest in CALLS:
                    for one, other in ((value, EVEN), (EVEN, value), (value, value), (ALONE, value)):
                        with self.assertRaises(InvalidMachine):
                            call(one, other, *rest)

    def test_other_letters(self):
        for call, rest in CALLS:
            for one, other in ((EVEN, ALONE), (ALONE, EVEN), (EVEN, Machine("ac", ((0, 0),)))):
                with self.assertRaises(InvalidOperation):
                    call(one, other, *rest)

    def test_no_cloud(self):
        right = (STAY,)
        for value in NO_CLOUDS:
            for call in (
                lambda: cloud_product(EVEN, ODD, value, right), lambda: cloud_product(EVEN, ODD, right, value),
                lambda: cloud_power(EVEN, ODD, value, 1), lambda: cloud_power(EVEN, ODD, value, None),
                lambda: often(EVEN, ODD, value), lambda: often_number(EVEN, ODD, value),
                lambda: is_bad(EVEN, ODD, value),
            ):
                with self.assertRaises(InvalidOperation):
                    call()

    def test_wrong_times(self):
        for times in NO_NUMBERS + (-1, 0, 61, 10 ** 39, True, False):
            with self.assertRaises(InvalidNumber) as caught:
                cloud_power(EVEN, ODD, (STAY,), times)
            self.assertIs(caught.exception.value, times)

    def test_nothing_is_changed(self):
        paper = ((STAY, PRESS),)
        recipe = (("word", "a"), ("often", 0))
        answers = [
            (often(EVEN, ODD, paper[0]), cloud_power(EVEN, ODD, paper[0], 3), recipe_clouds(EVEN, ODD, recipe))
            for _ in range(2)
        ]
        self.assertEqual(answers[0], answers[1])
        self.assertEqual(recipe, (("word", "a"), ("often", 0)))
        for value in NO_WORDS:
            self.assertIs(is_blur(EVEN, ODD, value), False)


if __name__ == "__main__":
    unittest.main()
