"""Premises and a conclusion: points [15.1] and [15.2] and stage 15."""

import unittest
from itertools import product

from oneswill.base.agendas import Agenda
from oneswill.base.sentences import names_in, value_of
from oneswill.errors import InvalidAgenda, InvalidName, InvalidOperation, InvalidSentence, UnknownName
from oneswill.link.links import is_blocked
from oneswill.more.concluded import concluded, conclusions, is_conclusion, kind, sentence_of
from oneswill.rule.sums import is_summed
from oneswill.rule.verdict import has_another
from tests.common import BOTH, CLAIM, EVEN, ORDERS, PAIR, SIX, Calls, deep, mixed_agendas, small_agendas

FIVE = ("p", "q", "r", "s", "t")
NO_PREMISES = ((), ("q", "p"), ("p", "p"), FIVE + ("u",), ["p"], ["p", "q"], ("P",), ("p", ""), ("p", 1), "p", None, 0,
               {"p": 1}, (("p",),), ("p", None), CLAIM, BOTH)
NO_SENTENCES = (("and",), (), ("p",), ("not", "p", "q"), ("same", "p"), ("xor", "p", "q"), ["and", "p"], ("and", ["p"]),
                "P", "", 1, None, ("and", 1), ("not", ("and",)), {"p": 1}, CLAIM)
NESTED = "p"
for _ in range(8):
    NESTED = ("not", NESTED)


def said(premises, ones):
    """A sentence that has value 1 just for these values of the premises, of which there are some."""
    parts = [("and", *[premise if value else ("not", premise) for premise, value in zip(premises, values)])
             for values in ones]
    return ("or", *parts) if parts else ("and", premises[0], ("not", premises[0]))


def truths(premises, sentence):
    """A dict from the values of the premises to that of the sentence."""
    return {values: value_of(sentence, dict(zip(premises, values))) for values in product((0, 1), repeat=len(premises))}


def kinds_by_words(premises, table):
    """All kinds that a sentence is of, in the order of the document, told by its words alone."""
    found = []
    for at, premise in enumerate(premises):
        if not any(table[values] != table[values[:at] + (1 - values[at],) + values[at + 1:]] for values in table):
            found.append(("free", premise))
    for values in table:
        if all(table[other] == int(other == values) for other in table):
            found.append(("all", dict(zip(premises, values))))
    for values in table:
        if all(table[other] == int(any(one == two for one, two in zip(other, values))) for other in table):
            found.append(("some", dict(zip(premises, values))))
    for value in (0, 1):
        if all(table[other] == (sum(other) + value) % 2 for other in table):
            found.append(("sum", value))
    return found or [("none",)]


def every_table(premises):
    """All sets of values of the premises for which a sentence can have value 1."""
    values = list(product((0, 1), repeat=len(premises)))
    for chosen in product((0, 1), repeat=len(values)):
        yield [told for told, one in zip(values, chosen) if one]


class ConcludedTest(Calls):
    def test_all_sentences_of_three(self):
        for premises in (("p",), ("p", "q"), ("b", "m", "x")):
            for ones in list(every_table(premises))[::3]:
                for name in ("a", "n", "z"):
                    self.check(premises, name, said(premises, ones), ones)

    def check(self, premises, name, sentence, ones):
        if len(ones) in (0, 2 ** len(premises)):
            self.refuse(InvalidAgenda, concluded, premises, name, sentence)
            return
        agenda = self.told(concluded, premises, name, sentence)
        issues = tuple(sorted((*premises, name)))
        rows = [{**dict(zip(premises, values)), name: int(values in ones)}
                for values in product((0, 1), repeat=len(premises))]
        right = Agenda(issues, tuple(sorted(tuple(row[issue] for issue in issues) for row in rows)))
        self.assertEqual(deep(agenda), deep(right))
        self.assertIs(is_conclusion(agenda, name), True)

    def test_five_premises(self):
        sentence = ("or", ("and", "p", "q"), ("same", "r", ("and", "s", "t")))
        agenda = self.soon(concluded, FIVE, "c", sentence)
        self.assertEqual((agenda.issues, len(agenda)), (("c",) + FIVE, 32))
        for row in agenda:
            told = dict(zip(agenda.issues, row))
            self.assertEqual(told["c"], value_of(sentence, told))

    def test_the_deepest_sentence(self):
        self.assertEqual(concluded(("p",), "c", NESTED), PAIR.turned(("a",)).renamed({"a": "c", "b": "p"}))
        self.refuse(InvalidSentence, concluded, ("p",), "c", ("not", NESTED))
        wide = ("and", *["p"] * 200)
        self.assertEqual(kind(("p",), wide), ("all", {"p": 1}))
        self.refuse(InvalidSentence, kind, ("p",), wide + ("p",))

    def test_no_premises(self):
        for premises in NO_PREMISES:
            self.refuse(InvalidOperation, concluded, premises, "c", "p")
            self.refuse(InvalidOperation, kind, premises, "p")
        self.refuse_wrong(InvalidOperation, concluded, ("p",), "c", "p", at=0, right=[("zz",)])
        self.refuse_wrong(InvalidOperation, kind, ("p",), "p", at=0, right=[("zz",)])

    def test_no_names(self):
        for name in ("", "P", "a b", "abcdefghi", 1, None, True, ("c",), ["c"], {"c": 1}, CLAIM):
            self.refuse(InvalidName, concluded, ("p",), name, "p")
        self.refuse_wrong(InvalidName, concluded, ("p",), "c", "p", at=1, right=["zz"])

    def test_no_sentences(self):
        for sentence in NO_SENTENCES:
            self.refuse(InvalidSentence, concluded, ("p", "q"), "c", sentence)
            self.refuse(InvalidSentence, kind, ("p", "q"), sentence)
        self.refuse_wrong(InvalidSentence, concluded, ("p",), "c", "p", at=2, right=["zz"])
        self.refuse_wrong(InvalidSentence, kind, ("p",), "p", at=1, right=["zz"])
        self.refuse(UnknownName, kind, ("p",), "zz", name="zz")

    def test_a_name_that_is_a_premise(self):
        self.refuse(InvalidOperation, concluded, ("p", "q"), "q", "p")

    def test_names_that_are_no_premises(self):
        for sentence, name in (("r", "r"), (("and", "z", "p", "r"), "r"), (("not", ("same", "p", "c")), "c"),
                               (("or", ("and", "q", "x"), "b", "y"), "b")):
            self.refuse(UnknownName, concluded, ("p", "q"), "c", sentence, name=name)
            self.refuse(UnknownName, kind, ("p", "q"), sentence, name=name)

    def test_the_order_of_the_errors(self):
        self.refuse(InvalidOperation, concluded, (), 1, 1)
        self.refuse(InvalidName, concluded, ("p",), 1, 1)
        self.refuse(InvalidSentence, concluded, ("p",), "p", ("and",))
        self.refuse(InvalidOperation, concluded, ("p",), "p", "x")
        self.refuse(UnknownName, concluded, ("p",), "c", ("and", "x", ("not", "x")), name="x")
        self.refuse(InvalidAgenda, concluded, ("p",), "c", ("and", "p", ("not", "p")))
        self.refuse(InvalidOperation, kind, (), ("and",))
        self.refuse(InvalidSentence, kind, ("p",), ("and", "x", 1))


class KindTest(Calls):
    def test_all_sentences(self):
        for premises in (("p",), ("p", "q"), ("b", "m", "x")):
            for ones in every_table(premises):
                sentence = said(premises, ones)
                right = kinds_by_words(premises, truths(premises, sentence))[0]
                self.assertEqual(deep(self.told(kind, premises, sentence)), deep(right))

    def test_four_and_five_premises(self):
        for premises in (FIVE[:4], FIVE):
            values = list(product((0, 1), repeat=len(premises)))
            sums = [[told for told in values if sum(told) % 2 == value] for value in (0, 1)]
            ones = (1,) * (len(premises) - 1)
            free = [[told for told in values if told[:at] + told[at + 1:] == ones] for at in range(4)]
            for ones in [values[5:6], values[:1], values[1:], values[:7] + values[8:], values[:2], values[3:], *sums,
                         *free, sums[0][1:], sums[1] + values[:1], [], values, values[::2], values[:len(values) // 2]]:
                sentence = said(premises, ones)
                right = kinds_by_words(premises, truths(premises, sentence))[0]
                self.assertEqual(deep(self.soon(kind, premises, sentence)), deep(right))

    def test_several_kinds_at_once(self):
        # A premise alone is told by itself in each of three ways.
        self.assertEqual(kinds_by_words(("p",), truths(("p",), "p")),
                         [("all", {"p": 1}), ("some", {"p": 1}), ("sum", 0)])
        self.assertEqual(kind(("p",), "p"), ("all", {"p": 1}))
        self.assertEqual(kind(("p",), ("not", "p")), ("all", {"p": 0}))
        # It hangs on none of these.
        self.assertEqual(kind(("p", "q", "r"), "q"), ("free", "p"))
        self.assertEqual(kind(("p", "q", "r"), ("and", "p", "r")), ("free", "q"))

    def test_sentences_of_one_value(self):
        for premises in (("p",), ("p", "q"), FIVE):
            for sentence in (("and", "p", ("not", "p")), ("or", "p", ("not", "p")), ("same", "p", "p")):
                self.assertEqual(kind(premises, sentence), ("free", "p"))

    def test_names_that_a_sentence_does_not_hang_on(self):
        sentence = ("or", ("and", "p", "q"), ("and", "p", ("not", "q")))
        self.assertEqual(names_in(sentence), ("p", "q"))
        self.assertEqual(kind(("p", "q"), sentence), ("free", "q"))

    def test_which_have_another_rule(self):
        # [15.2]
        for premises in (("p", "q"), ("b", "m", "x")):
            for ones in list(every_table(premises))[1:-1]:
                agenda, found = concluded(premises, "c", said(premises, ones)), kind(premises, said(premises, ones))
                self.assertIs(has_another(agenda), found != ("none",))
                if found == ("none",):
                    self.assertEqual((is_blocked(agenda), is_summed(agenda)), (True, False))
                if found[0] == "sum":
                    self.assertEqual((is_blocked(agenda), is_summed(agenda)), (True, True))


class ConclusionTest(Calls):
    def right(self, agenda, issue):
        """Whether the agenda is a concluded one with this conclusion, told by the document's words alone."""
        at = agenda.issues.index(issue)
        cut = [row[:at] + row[at + 1:] for row in agenda.rows]
        return len(agenda.issues) > 1 and sorted(cut) == list(product((0, 1), repeat=len(agenda.issues) - 1))

    def test_conclusions(self):
        for agenda in small_agendas() + mixed_agendas():
            right = tuple(issue for issue in agenda.issues if self.right(agenda, issue))
            self.assertEqual(repr(self.told(conclusions, agenda)), repr(right))
            for issue in agenda.issues:
                self.assertIs(self.told(is_conclusion, agenda, issue), issue in right)
                if issue in right:
                    self.check_sentence(agenda, issue)
                else:
                    self.refuse(InvalidOperation, sentence_of, agenda, issue)

    def check_sentence(self, agenda, issue):
        sentence = self.told(sentence_of, agenda, issue)
        others = tuple(other for other in agenda.issues if other != issue)
        self.assertLessEqual(set(names_in(sentence)), set(others))
        self.assertEqual(concluded(others, issue, sentence), agenda)
        for row in agenda:
            told = dict(zip(agenda.issues, row))
            self.assertEqual(value_of(sentence, told), told[issue])

    def test_several_conclusions(self):
        even = Agenda(SIX, tuple(row for row in product((0, 1), repeat=6) if sum(row) % 2 == 0))
        self.assertEqual(conclusions(even), SIX)
        for issue in SIX:
            self.check_sentence(even, issue)

    def test_one_issue(self):
        agenda = Agenda.free(("a",))
        self.assertEqual(conclusions(agenda), ())
        self.assertIs(is_conclusion(agenda, "a"), False)
        self.refuse(InvalidOperation, sentence_of, agenda, "a")

    def test_five_premises_with_few_ones(self):
        for sentence in (("and", *FIVE), ("or", *FIVE), ("same", "p", ("and", "q", "r", "s", "t"))):
            agenda = concluded(FIVE, "z", sentence)
            self.assertIn("z", conclusions(agenda))
            self.check_sentence(agenda, "z")

    def test_as_many_rows_but_not_all_values(self):
        agenda = Agenda(("a", "b", "c"), ((0, 0, 0), (0, 0, 1), (0, 1, 0), (1, 1, 1)))
        self.assertEqual([is_conclusion(agenda, issue) for issue in "abc"], [True, False, False])

    def test_no_issues(self):
        for call in (is_conclusion, sentence_of):
            for issue in ("r", "", "P", None, 0, ("p",), ["p"], {"p": 1}, True, CLAIM):
                self.refuse(UnknownName, call, CLAIM, issue, name=issue)
            self.refuse_wrong(UnknownName, call, CLAIM, "p", at=1, keeps="name")
        self.refuse(UnknownName, sentence_of, ORDERS, "p", name="p")

    def test_no_agenda(self):
        for call, more in ((is_conclusion, ("p",)), (sentence_of, ("both",)), (conclusions, ())):
            self.refuse_wrong(InvalidAgenda, call, CLAIM, *more, at=0, right=(PAIR, EVEN, CLAIM))
            self.refuse(InvalidAgenda, call, CLAIM.rows, *[None for _ in more])


if __name__ == "__main__":
    unittest.main()
