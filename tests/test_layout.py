"""The files of the package: where the names of the interface stand, and the sizes and words that are let."""

import ast
import builtins
import importlib
import pathlib
import unittest

PACKAGE = pathlib.Path(__file__).resolve().parent.parent / "neverturns"
FILES = sorted(PACKAGE.rglob("*.py"))
INTERFACE = {
    "errors": (
        "TurnError", "InvalidWord", "InvalidMachine", "InvalidBox", "InvalidOperation", "ParseError", "UnknownName",
        "GoesRound", "InvalidNumber", "TooMany", "NothingToUndo", "Refused",
    ),
    "base.words": ("is_letters", "is_word", "all_words", "power", "root", "exponent", "are_powers"),
    "base.machines": ("Machine",),
    "base.joined": (
        "of_words", "chained", "repeated", "mirrored", "behind", "renamed", "common_word", "first_difference",
        "are_same",
    ),
    "still.turns": ("actions", "word_of", "settles", "first_turn", "is_turn", "is_still", "is_calm"),
    "still.boxes": ("Box",),
    "still.sights": (
        "places", "word_to", "tells_apart", "alike_pair", "is_alike_pair", "seen_by", "apart_paper", "is_apart_paper",
    ),
    "cloud.images": (
        "image", "images", "first_words", "is_image", "is_map", "product", "rounds", "hits",
    ),
    "cloud.papers": (
        "is_cloud_of_maps", "cloud_product", "cloud_power", "often", "often_number", "is_bad", "is_clear_paper",
        "recipe_clouds", "is_recipe", "is_blur",
    ),
    "cloud.finding": (
        "greatest_clouds", "is_cloud", "are_clouded", "are_blurred", "blur", "clear_paper", "recipe_for",
    ),
    "cloud.pairs": ("word_for", "words_against", "pair_against", "is_pair", "against_all"),
    "part.ends": ("are_ended", "least_end", "long_end", "is_long_end"),
    "part.kinds": (
        "kind", "latest", "first_box", "common_box", "kind_table", "groups", "parting_paper", "is_parting_paper",
    ),
    "text.formats": (
        "write_machine", "write_box", "write_recipe", "write_cloud", "read_machine", "read_box", "read_recipe",
        "read_cloud",
    ),
    "live.watch": ("Watch",),
    "row.resets": ("is_row", "stand_after", "stands", "row_box", "rows_beside", "is_row_paper"),
    "row.finding": ("image_sets", "height", "tiles", "row_paper", "calm_paper", "is_calm_paper"),
    "said.sayings": (
        "is_saying", "truths", "holds", "denied", "either", "both", "saying_machine", "parting_word",
    ),
    "said.finding": (
        "saying_of", "is_saying_of", "saying_or_turn", "is_saying_or_turn", "box_saying", "says_apart",
    ),
}
CONSTANTS = {
    "base.words": {"MAX_LETTERS": 2}, "base.machines": {"MAX_STATES": 4, "MAX_TIMES": 10 ** 11},
    "still.turns": {"MAX_ACTIONS": 60}, "still.boxes": {"MAX_PLACES": 4}, "cloud.images": {"MAX_IMAGES": 32},
    "cloud.pairs": {"MAX_LENGTH": 100000, "MAX_NUMBER": 6}, "part.ends": {"MAX_SIZE": 40},
    "part.kinds": {"KINDS": ("ends", "still", "rings", "meets")},
    "row.resets": {"MAX_VALUES": 12, "MAX_STANDS": 1000}, "row.finding": {"MAX_ROWED": 5},
    "said.sayings": {"MOST_TRUTHS": 1000},
}
METHODS = {
    "base.machines.Machine": (
        "__init__", "letters", "table", "ends", "is_empty", "is_full", "after", "words", "first_word", "least",
        "__invert__", "__or__", "__and__", "__sub__", "__contains__", "__len__", "__eq__", "__str__",
    ),
    "still.boxes.Box": (
        "__init__", "window", "caps", "letters", "table", "__call__", "place", "action", "lag", "first_word", "lean",
        "machine", "__and__", "__len__", "__eq__", "__str__",
    ),
    "live.watch.Watch": (
        "__init__", "add_machine", "drop_machine", "begin", "close", "feed", "change_box", "guesses", "place", "box",
        "machines", "places", "doubts", "__getitem__", "__contains__", "__iter__", "__len__", "__eq__", "__str__",
        "undo", "redo", "attempt", "during", "twin",
    ),
}
LIBRARY = {"heapq": ("heappush", "heappop")}
BUILTINS = (
    "iter len range enumerate zip min max sum abs sorted reversed int str bool list tuple dict set isinstance ord repr "
    "any all divmod super property classmethod staticmethod Exception ValueError TypeError KeyError IndexError "
    "LookupError ZeroDivisionError ArithmeticError OverflowError RuntimeError NotImplemented"
).split()


def tree_of(path):
    return ast.parse(path.read_text(encoding="utf-8"))


def nodes(kinds):
    for path in FILES:
        for node in ast.walk(tree_of(path)):
            if isinstance(node, kinds):
                yield path.name, node


class LayoutTest(unittest.TestCase):

    def test_names_are_defined_where_the_interface_lists_them(self):
        for module, names in INTERFACE.items():
            tree = tree_of(PACKAGE / (module.replace(".", "/") + ".py"))
            defined = [node.name for node in tree.body if isinstance(node, (ast.FunctionDef, ast.ClassDef))]
            for name in names:
                self.assertIn(name, defined)

    def test_methods_are_defined_in_their_class(self):
        for place, names in METHODS.items():
            module, _, name = place.rpartition(".")
            found = vars(getattr(importlib.import_module("neverturns." + module), name))
            for method in names:
                self.assertIn(method, found)

    def test_constants(self):
        for module, told in CONSTANTS.items():
            found = vars(importlib.import_module("neverturns." + module))
            self.assertEqual({name: found[name] for name in told}, told)

    def test_every_folder_is_a_package(self):
        for path in FILES:
            self.assertTrue((path.parent / "__init__.py").is_file())

    def test_sizes_and_signs(self):
        for path in FILES:
            text = path.read_bytes().decode("ascii")
            lines = text.split("\n")
            self.assertLess(len(lines), 400)
            self.assertLessEqual(max(map(len, lines)), 120)
            self.assertTrue(all(sign == "\n" or " " <= sign <= "~" for sign in text), path)

    def test_functions_are_short(self):
        for name, node in nodes(ast.FunctionDef):
            self.assertLessEqual(node.end_lineno - node.lineno, 39, (name, node.name))

    def test_imports(self):
        for name, node in nodes((ast.Import, ast.ImportFrom)):
            self.assertIsInstance(node, ast.ImportFrom, name)
            if node.module in LIBRARY:
                self.assertTrue(all(alias.name in LIBRARY[node.module] for alias in node.names), name)
            else:
                self.assertTrue(node.module.startswith("neverturns."), name)
            self.assertEqual([alias.asname for alias in node.names], [None] * len(node.names), name)

    def test_what_is_imported_is_used_and_means_nothing_else(self):
        for path in FILES:
            tree = tree_of(path)
            found = [alias.name for node in tree.body if isinstance(node, ast.ImportFrom) for alias in node.names]
            names = [node for node in ast.walk(tree) if isinstance(node, ast.Name)]
            self.assertEqual(set(found) - {node.id for node in names}, set(), path)
            found += [node.name for node in tree.body if isinstance(node, ast.ClassDef)]
            bound = [node.id for node in names if isinstance(node.ctx, ast.Store)]
            bound += [node.arg for node in ast.walk(tree) if isinstance(node, ast.arg)]
            self.assertEqual(set(found) & set(bound), set(), path)
            bound += [node.name for node in tree.body if isinstance(node, ast.FunctionDef)]
            self.assertEqual(set(dir(builtins)) & set(bound), set(), path)

    def test_only_some_builtins(self):
        for name, node in nodes(ast.Name):
            if hasattr(builtins, node.id):
                self.assertIn(node.id, BUILTINS, name)
                self.assertIsInstance(node.ctx, ast.Load, name)

    def test_no_generator_expression_stands_beside_an_own_equality(self):
        for name, node in nodes(ast.GeneratorExp):
            self.fail((name, node.lineno))


if __name__ == "__main__":
    unittest.main()
