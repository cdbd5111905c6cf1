"""The examples of the document, word by word."""

import doctest
import unittest
from pathlib import Path

from oneswill.base.agendas import Agenda, contrary
from oneswill.base.names import is_integer, is_name, is_values
from oneswill.errors import InvalidAgenda
from tests.common import CLAIM, EVEN, ORDERS, PAIR


class ExamplesTest(unittest.TestCase):
    def test_examples(self):
        self.assertEqual(PAIR.issues, ("a", "b"))
        self.assertEqual(PAIR.rows, ((0, 1), (1, 0)))
        self.assertEqual(EVEN.issues, ("a", "b", "c"))
        self.assertEqual(EVEN.rows, ((0, 0, 0), (0, 1, 1), (1, 0, 1), (1, 1, 0)))
        self.assertEqual(ORDERS.rows, ((0, 0, 0), (0, 0, 1), (0, 1, 1), (1, 0, 0), (1, 1, 0), (1, 1, 1)))
        self.assertEqual(CLAIM.issues, ("both", "p", "q"))
        self.assertEqual(CLAIM.rows, ((0, 0, 0), (0, 0, 1), (0, 1, 0), (1, 1, 1)))


class StageOneTest(unittest.TestCase):
    def test_judges(self):
        told = [is_integer(-3), is_integer(True), is_name("road"), is_name("Road"), is_values((0, 1, 1)), is_values(()),
                is_values((0, True)), is_values([0])]
        self.assertEqual(told, [True, False, True, False, True, True, False, False])


class StageTwoTest(unittest.TestCase):
    def test_reading(self):
        told = [ORDERS.issues, len(ORDERS), PAIR.answers, ORDERS["bc"], (1, 0, 1) in ORDERS, str(CLAIM),
                Agenda.free(("a",)).rows]
        self.assertEqual(told, [
            ("ab", "ac", "bc"), 6, (("a", 0), ("a", 1), ("b", 0), ("b", 1)), 2, False, "agenda of 3 issues, 4 rows",
            ((0,), (1,))])

    def test_edits(self):
        told = [PAIR.turned(("b",)).rows, PAIR.renamed({"a": "c"}).issues, CLAIM.only(("both", "p")).rows,
                CLAIM.fixed(("both", 0)).rows, len(PAIR + CLAIM), contrary(("p", 0))]
        self.assertEqual(told, [
            ((0, 0), (1, 1)), ("b", "c"), ((0, 0), (0, 1), (1, 1)), ((0, 0), (0, 1), (1, 0)), 8, ("p", 1)])

    def test_error(self):
        with self.assertRaises(InvalidAgenda):
            CLAIM.fixed(("both", 1))


class ReadmeTest(unittest.TestCase):
    def test_the_readme_tells_what_is_so(self):
        readme = Path(__file__).resolve().parent.parent / "README.md"
        # The closing fence would be read as a part of the last answer.
        text = readme.read_text(encoding="utf-8").replace("```", "")
        found = doctest.DocTestParser().get_doctest(text, {}, "README.md", str(readme), 0)
        self.assertGreater(len(found.examples), 0)
        self.assertEqual(doctest.DocTestRunner(verbose=False).run(found).failed, 0)


if __name__ == "__main__":
    unittest.main()
