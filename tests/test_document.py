"""The examples of the document, word by word, and those of README.md."""

import doctest
import importlib
import unittest
from pathlib import Path

TESTS = Path(__file__).resolve().parent
# In the order in which they stand in the document: the later ones use names of the earlier ones.
STAGES = {
    "values": "oneswill.base.agendas",
    "stage_01": "oneswill.base.names",
    "stage_02": "oneswill.base.agendas",
    "stage_03": "oneswill.base.clashes",
    "stage_04": "oneswill.base.sentences",
    "stage_05": "oneswill.link.links",
    "stage_06": "oneswill.rule.rules",
    "stage_07": "oneswill.rule.twos",
    "stage_08": "oneswill.rule.sums",
    "stage_09": "oneswill.rule.verdict",
    "stage_10": "oneswill.rule.even",
    "stage_11": "oneswill.rule.same",
    "stage_12": "oneswill.rule.winners",
    "stage_13": "oneswill.more.changed",
    "stage_14": "oneswill.more.orders",
    "stage_15": "oneswill.more.concluded",
    "stage_16": "oneswill.desk.desk",
    "stage_17": "oneswill.text.formats",
    "stage_18": "oneswill.text.shell",
}


def examples(stage):
    """Pairs of a line and of the answer that stands below it, or None."""
    found = []
    for line in (TESTS / "examples" / f"{stage}.txt").read_text(encoding="ascii").splitlines():
        if line.startswith(">>> "):
            found.append((line[4:], None))
        else:
            found[-1] = (found[-1][0], line)
    return found


def defined_in(name):
    """What a module defines itself: what it imports does not stand in it for the document."""
    module = importlib.import_module(name)
    return {key: value for key, value in vars(module).items() if getattr(value, "__module__", "") == name}


class ExamplesTest(unittest.TestCase):
    def test_examples(self):
        names, ran = {}, 0
        for stage, module in STAGES.items():
            names.update(defined_in(module))
            for line, answer in examples(stage):
                with self.subTest(stage=stage, line=line):
                    self.check(line, answer, names)
                    ran += 1
        self.assertGreaterEqual(ran, 2 * len(STAGES))

    def check(self, line, answer, names):
        if answer is None:
            exec(line, names)
        elif answer.startswith("raises "):
            told = answer.removeprefix("raises ")
            with self.assertRaises(Exception) as caught:
                eval(line, names)
            self.assertEqual(repr(caught.exception) if "(" in told else type(caught.exception).__name__, told)
        else:
            self.assertEqual(repr(eval(line, names)), answer)


class ReadmeTest(unittest.TestCase):
    def test_the_readme_tells_what_is_so(self):
        readme = TESTS.parent / "README.md"
        # The closing fence would be read as a part of the last answer.
        text = readme.read_text(encoding="utf-8").replace("```", "")
        found = doctest.DocTestParser().get_doctest(text, {}, "README.md", str(readme), 0)
        self.assertGreater(len(found.examples), 0)
        self.assertEqual(doctest.DocTestRunner(verbose=False).run(found).failed, 0)


if __name__ == "__main__":
    unittest.main()
