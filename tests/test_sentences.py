"""Sentences: point [4.1] and stage 4."""

import unittest
from itertools import product

from oneswill.base.agendas import Agenda
from oneswill.base.sentences import MAX_DEPTH, MAX_PARTS, agenda_of, is_sentence, names_in, sentence_for, value_of
from oneswill.errors import InvalidAgenda, InvalidOperation, InvalidSentence, UnknownName
from tests.common import CLAIM, EVEN, PAIR, SIX, Calls, small_agendas

NO_SENTENCES = (
    (), ("and",), ("or",), ("not",), ("same",), ("not", "p", "q"), ("same", "p"), ("same", "p", "q", "r"),
    ("p",), ("p", "q"), ("nor", "p", "q"), ("And", "p"), ("", "p"), (("and", "p"),), (("and",), "p"), (0, "p"),
    (None, "p"), (True, "p"), (["and"], "p"), ["and", "p"], ("and", ["p"]), ("and", ["not", "p"]), ("and", "P"),
    ("and", ""), ("and", "abcdefghi"), ("and", 0), ("and", True), ("and", None), ("and", ()), ("or", "p", ("and",)),
    ("and", "p", {"p": 1}), {"and": "p"}, "P", "", "a b", "abcdefghi", 0, 1, True, None, ("not", ("p",)), PAIR,
    ("and", PAIR), (PAIR, "p"), ("and", "p", "a1"), ("same", "p", ("not", "p", "p")),
)
SENTENCES = (
    "p", "abcdefgh", ("and", "p"), ("or", "p"), ("not", "p"), ("same", "p", "p"), ("and", "p", ("not", "p")),
    ("or", "p", "q", ("same", "q", ("and", "p", "r"))), ("not", ("not", ("not", "q"))),
    ("same", ("or", "p", "q"), ("not", ("and", "q", "r", ("or", "r", ("not", "p"))))),
    # The words are names, too, where a sentence stands.
    "and", "or", "not", "same", ("and", "and"), ("or", "or", "and"), ("not", "not"), ("same", "same", "not"),
    ("and", ("not", "and"), "or"),
)


def deep_sentence(many):
    """A sentence with so many tuples one in another."""
    sentence = "p"
    for at in range(many):
        sentence = (("not", sentence), ("and", "q", sentence), ("or", sentence), ("same", sentence, "r"))[at % 4]
    return sentence


def worth(sentence, values):
    """The value that the words of a sentence tell."""
    if isinstance(sentence, str):
        return values[sentence]
    parts = [worth(part, values) for part in sentence[1:]]
    return {"not": 1 - parts[0], "and": min(parts), "or": max(parts), "same": int(len(set(parts)) == 1)}[sentence[0]]


def names_of(sentence):
    """The set of the names in a sentence."""
    return {sentence} if isinstance(sentence, str) else set().union(*map(names_of, sentence[1:]))


class SentenceTest(Calls):
    def test_sentences(self):
        for sentence in SENTENCES:
            self.assertIs(is_sentence(sentence), True, sentence)
            self.assertEqual(self.told(names_in, sentence), tuple(sorted(names_of(sentence))))

    def test_no_sentences(self):
        for value in NO_SENTENCES:
            self.assertIs(is_sentence(value), False, value)
            for call, more in ((names_in, ()), (value_of, ({"p": 1},)), (value_of, (None,))):
                self.refuse(InvalidSentence, call, value, *more)
            self.refuse(InvalidSentence, agenda_of, ("p", "q"), value)
        self.judge_wrong(is_sentence, right=["zz"])
        self.refuse_wrong(InvalidSentence, names_in, "p", at=0, right=["zz"])
        self.refuse_wrong(InvalidSentence, value_of, "p", {"p": 1}, at=0, right=["zz"])
        self.refuse_wrong(InvalidSentence, agenda_of, ("p",), "p", at=1, right=["zz"])

    def test_depth(self):
        self.assertEqual(MAX_DEPTH, 8)
        for many in range(1, 12):
            self.assertIs(is_sentence(deep_sentence(many)), many <= 8, many)
            self.assertIs(is_sentence(("or", "p", deep_sentence(many), "q")), many <= 7, many)
            self.assertIs(is_sentence(("or", deep_sentence(many), "q")), many <= 7, many)
        self.assertEqual(value_of(deep_sentence(8), {"p": 1, "q": 1, "r": 0}),
                         worth(deep_sentence(8), {"p": 1, "q": 1, "r": 0}))
        self.refuse(InvalidSentence, names_in, deep_sentence(9))

    def test_how_many_parts(self):
        self.assertEqual(MAX_PARTS, 200)
        for word in ("and", "or"):
            for many in (1, 2, 3, 199, 200, 201, 202, 300):
                self.assertIs(is_sentence((word, *(["p", "q"] * many)[:many])), many <= 200, many)
        self.assertEqual(value_of(("or", *["p"] * 199, "q"), {"p": 0, "q": 1}), 1)
        self.assertEqual(value_of(("and", *["p"] * 199, "q"), {"p": 1, "q": 0}), 0)
        self.refuse(InvalidSentence, value_of, ("and", *["p"] * 201), {"p": 1})


class ValueTest(Calls):
    def test_values(self):
        for sentence in SENTENCES:
            names = sorted(names_of(sentence))
            for chosen in product((0, 1), repeat=len(names)):
                values = dict(zip(names, chosen))
                found = self.told(value_of, sentence, values)
                self.assertEqual(repr(found), repr(worth(sentence, values)), (sentence, values))

    def test_what_the_words_tell(self):
        table = [(p, q) for p in (0, 1) for q in (0, 1)]
        for word, right in (("and", [0, 0, 0, 1]), ("or", [0, 1, 1, 1]), ("same", [1, 0, 0, 1])):
            self.assertEqual([value_of((word, "p", "q"), {"p": p, "q": q}) for p, q in table], right)
        self.assertEqual([value_of(("not", "p"), {"p": value}) for value in (0, 1)], [1, 0])
        self.assertEqual([value_of((word, "p"), {"p": 1}) for word in ("and", "or")], [1, 1])

    def test_other_names(self):
        values = {"z": 1, "q": 0, "p": 1, "and": 0}
        self.assertEqual(self.told(value_of, ("or", "p", "q"), values), 1)
        self.assertEqual(value_of("q", dict(reversed(values.items()))), 0)

    def test_no_values(self):
        for values in ({}, {"p": 1}, {"q": 1}, {"p": 1, "q": True}, {"p": False, "q": 1}, {"p": 1, "q": 2},
                       {"p": 1, "q": -1}, {"p": 1, "q": None}, {"p": 1, "q": "1"}, {"p": 1, "q": (1,)},
                       {"p": 1, "q": 1, "r": True}, {"p": 1, "q": 1, "r": 2}, {"p": 1, "q": 1, "R": 1},
                       {"p": 1, "q": 1, "": 1}, {"p": 1, "q": 1, 0: 1}, {"p": 1, "q": 1, None: 0},
                       {"p": 1, "q": 1, ("p",): 0}, {"p": 1, "q": 1, True: 0}, {"p": 1, "q": 1, "abcdefghi": 0},
                       (("p", 1), ("q", 1)), [("p", 1), ("q", 1)], "pq", None, 1, (), [], PAIR, {"p": 1, "q": [1]}):
            self.refuse(InvalidOperation, value_of, ("and", "p", "q"), values)
        self.refuse_wrong(InvalidOperation, value_of, "p", {"p": 1}, at=1)

    def test_the_sentence_is_told_first(self):
        self.refuse(InvalidSentence, value_of, ("and",), None)


class AgendaTest(Calls):
    def test_agendas(self):
        for sentence in SENTENCES:
            names = sorted(names_of(sentence))
            issues = tuple(sorted({*names, "x", "zz"}))
            rows = tuple(row for row in product((0, 1), repeat=len(issues)) if worth(sentence, dict(zip(issues, row))))
            if all(len(set(column)) == 2 for column in zip(*rows)) and rows:
                self.assertEqual(self.told(agenda_of, issues, sentence), Agenda(issues, rows))
            else:
                self.refuse(InvalidAgenda, agenda_of, issues, sentence)

    def test_no_such_agenda(self):
        # One value only, of the sentence or of an issue.
        for sentence in (("and", "p", ("not", "p")), "p", ("not", "q"), ("and", "p", "q"), ("not", ("or", "p", "q"))):
            self.refuse(InvalidAgenda, agenda_of, ("p", "q"), sentence)
        self.assertEqual(agenda_of(("p", "q"), ("or", "p", ("not", "p"))), Agenda.free(("p", "q")))

    def test_unknown_names(self):
        self.refuse(UnknownName, agenda_of, ("p", "q"), ("and", "p", "r"), name="r")
        self.refuse(UnknownName, agenda_of, ("p",), ("or", "z", ("not", ("same", "c", "p")), "b"), name="b")
        self.refuse(UnknownName, agenda_of, ("p",), "and", name="and")
        # Ahead of an agenda that is none.
        self.refuse(UnknownName, agenda_of, ("p",), ("and", "p", "q", ("not", "q")), name="q")

    def test_no_issues(self):
        for issues in ((), SIX + ("g",), ("q", "p"), ("p", "p"), ["p"], "p", None, ("P",), {"p": 1}, PAIR):
            self.refuse(InvalidAgenda, agenda_of, issues, "p")
            self.refuse(InvalidAgenda, agenda_of, issues, ("and",))
        self.refuse_wrong(InvalidAgenda, agenda_of, ("zz",), ("or", "zz", ("not", "zz")), at=0, right=[("zz",)])

    def test_large_sentences(self):
        part = ("or", *["a", "b", ("not", "c"), ("same", "e", "f")] * 50)
        sentence = ("and", *[part] * 199, ("or", "d", ("not", "d")))
        agenda = self.soon(agenda_of, SIX, sentence)
        rows = tuple(row for row in product((0, 1), repeat=6) if worth(part, dict(zip(SIX, row))))
        self.assertEqual(agenda, Agenda(SIX, rows))
        self.assertEqual(self.soon(names_in, sentence), SIX)


class SentenceForTest(Calls):
    def test_to_and_fro(self):
        for agenda in small_agendas():
            sentence = self.told(sentence_for, agenda)
            self.assertIs(is_sentence(sentence), True)
            self.assertEqual(agenda_of(agenda.issues, sentence), agenda)
            self.assertLessEqual(names_of(sentence), set(agenda.issues))

    def test_many_rows(self):
        rows = tuple(row for row in product((0, 1), repeat=6) if sum(row) & 1)
        for agenda in (Agenda(SIX, rows), Agenda.free(SIX), Agenda.free(SIX).without_row((1,) * 6)):
            self.assertEqual(agenda_of(SIX, self.soon(sentence_for, agenda)), agenda)

    def test_no_agenda(self):
        self.refuse_wrong(InvalidAgenda, sentence_for, PAIR, at=0, right=(PAIR, EVEN, CLAIM))


if __name__ == "__main__":
    unittest.main()
