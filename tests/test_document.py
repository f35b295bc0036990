"""The examples of the document, as they are printed there, in their order, with the values of earlier ones."""

import builtins
import doctest
import importlib
import pathlib
import unittest

from neverturns.base.words import all_words
from neverturns.errors import GoesRound, ParseError, Refused
from tests.test_layout import INTERFACE

EXAMPLES = pathlib.Path(__file__).with_name("examples.txt").read_text(encoding="ascii").split("\n")
ERRORS = {"GoesRound": GoesRound, "ParseError": ParseError, "Refused": Refused}


def imported():
    """What the imports of all sections bring."""
    return {
        name: getattr(importlib.import_module("neverturns." + module), name)
        for module, names in INTERFACE.items() for name in names
    }


class ExamplesTest(unittest.TestCase):

    def test_all_examples(self):
        values = imported()
        many = {"set": 0, "told": 0, "raised": 0}
        for line, behind in zip(EXAMPLES, EXAMPLES[1:]):
            if not line.startswith(">>> "):
                continue
            code = line[4:]
            if not behind or behind.startswith(">>> "):
                exec(code, values)
                many["set"] += 1
            elif behind.startswith("raises "):
                with self.assertRaises(ERRORS[behind[7:]]) as caught:
                    eval(code, values)
                self.assertIs(type(caught.exception), ERRORS[behind[7:]])
                many["raised"] += 1
            else:
                self.assertEqual(repr(eval(code, values)), behind, code)
                many["told"] += 1
        self.assertEqual(many, {"set": 20, "told": 39, "raised": 6})

    def test_what_the_values_are(self):
        values = imported()
        for line in EXAMPLES[1:8]:
            exec(line[4:], values)
        for word in all_words("ab", 6):
            self.assertEqual(word in values["EVEN"], word.count("a") % 2 == 0)
            self.assertEqual(word in values["ODD"], word.count("a") % 2 == 1)
            self.assertEqual(word in values["STARTS"], word.startswith("a"))
            self.assertEqual(word in values["OTHERS"], not word.startswith("a"))
            self.assertEqual(word in values["CLOSES"], word.endswith("a"))
            self.assertEqual(word in values["LATER"], word.endswith("b"))
            self.assertEqual(values["LATCH"](word) == 1, "a" in word)

    def test_what_the_raised_errors_keep(self):
        values = imported()
        for code, error, name, told in (
            ('Box("ab", ((1, 0), (0, 1)))', GoesRound, "turn", ("a", 0)),
            ('read_recipe("often 0")', ParseError, "line", 0),
            ('read_box("box a 2\\nplace 1\\nplace 0")', GoesRound, "turn", ("a", 0)),
            ('saying_of(Machine("ab", ((1, 0), (0, 1)), (1,)))', Refused, "reason", ("a", 0)),
        ):
            with self.assertRaises(error) as caught:
                eval(code, values)
            self.assertEqual(getattr(caught.exception, name), told)

    def test_the_readme(self):
        text = pathlib.Path(__file__).parent.with_name("README.md").read_text(encoding="ascii").replace("```", "")
        found = doctest.DocTestRunner().run(doctest.DocTestParser().get_doctest(text, {}, "README.md", None, 0))
        # What is shown is kept there by Python.
        vars(builtins).pop("_", None)
        self.assertEqual((found.failed, found.attempted > 20), (0, True))


if __name__ == "__main__":
    unittest.main()
