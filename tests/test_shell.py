"""The shell: stage 18."""

import unittest
from itertools import product

from oneswill.base.agendas import Agenda
from oneswill.base.clashes import least_clashes
from oneswill.desk.desk import Desk
from oneswill.errors import InvalidOperation, NoRow, NothingToUndo, ParseError, TooMany
from oneswill.link.links import knots, links
from oneswill.rule.even import even_sides
from oneswill.rule.rules import Rule, is_breach
from oneswill.rule.same import way_rule, ways
from oneswill.rule.twos import closed_sets
from oneswill.rule.verdict import another, is_paper
from oneswill.text.formats import read_rule, read_value, write_agenda, write_rule
from oneswill.text.shell import Shell
from tests.common import BOTH, CLAIM, EVEN, ORDERS, PAIR, SIX, Calls, deep, mixed_agendas, small_agendas, wrong_values

VALUES = tuple(product((0, 1), repeat=6))
FREE = Agenda.free(("a", "b"))
COMMANDS = ("keep", "forget", "vote", "leave", "add", "take", "drop", "turn", "undo", "redo", "agenda", "names",
            "people", "rule", "row", "outcome", "clashes", "links", "knots", "blocked", "twos", "another", "paper",
            "even", "ways")


def claim_shell():
    """A shell with a rule and two voters."""
    shell = Shell(write_agenda(CLAIM), {"all": write_rule(CLAIM, BOTH)})
    shell("vote ann 010")
    shell("vote bob 111")
    return shell


def over(agenda):
    """A shell over a desk with this agenda."""
    return Shell(write_agenda(agenda), {})


def figures(row):
    """The figures of a row."""
    return "".join(str(value) for value in row)


class ShellTest(Calls):
    def asks(self, shell, line, answer):
        """The answer to a line that changes nothing."""
        before = deep(shell.desk())
        self.assertEqual(repr(shell(line)), repr(answer), line)
        self.assertEqual(repr(shell.answer(line)), repr(answer), line)
        self.assertEqual(deep(shell.desk()), before, line)

    def does(self, shell, line, call, *args, **kept):
        """The line does just what the call does."""
        twin = shell.desk()
        getattr(twin, call)(*args, **kept)
        self.assertEqual(shell(line), "done", line)
        self.assertEqual((deep(shell.desk()), shell.desk().undo(many=0)), (deep(twin), twin.undo(many=0)), line)


class MadeTest(ShellTest):
    def test_a_shell(self):
        texts = {"b": write_rule(CLAIM, BOTH), "a": write_rule(CLAIM, Rule.of_voter(CLAIM.issues, 3, 1))}
        before = dict(texts)
        shell = Shell(write_agenda(CLAIM), texts)
        self.assertEqual((texts, list(texts)), (before, ["b", "a"]))
        desk = shell.desk()
        self.assertEqual((desk.agenda, desk.names, desk["b"], desk.people), (CLAIM, ("a", "b"), BOTH, ()))
        texts["c"] = "x"
        self.assertEqual(shell("names"), "a b")
        # The calls of keep can be undone, the last one first.
        self.assertEqual([shell("undo 3"), shell("undo"), shell("names"), shell("undo"), shell("names"),
                          shell("redo 2"), shell("names")],
                         ["undo 3", "done", "a", "done", "none", "done", "a b"])

    def test_without_rules(self):
        shell = over(CLAIM)
        self.assertEqual([shell("names"), shell("people"), shell("undo"), shell("redo")],
                         ["none", "none", "undo 1", "undo 1"])
        self.assertEqual(shell.desk(), Desk(CLAIM))

    def test_the_desk_is_a_twin(self):
        shell = claim_shell()
        desk = shell.desk()
        self.assertIsNot(desk, shell.desk())
        self.assertEqual(desk, shell.desk())
        desk.forget("all")
        desk.undo(many=4)
        self.assertEqual((shell("names"), shell("people"), shell.desk().undo(many=0)), ("all", "ann bob", 3))
        shell("leave ann")
        self.assertEqual(desk, Desk(CLAIM))

    def test_no_texts_of_rules(self):
        text = write_agenda(CLAIM)
        for texts in (None, 0, "", [], [("all", "x")], ("all",), {"all": None}, {"all": 1}, {"All": "x"}, {"": "x"},
                      {1: "x"}, {None: "x"}, {("all",): "x"}, {"all": ["x"]}, {"all": write_rule(CLAIM, BOTH), "b": 0},
                      {"all": BOTH}, CLAIM, True):
            self.refuse(InvalidOperation, Shell, text, texts)
            # It is told ahead of what is wrong with the texts themselves.
            self.refuse(InvalidOperation, Shell, "issues", texts)
        self.refuse_wrong(InvalidOperation, Shell, text, {}, at=1, right=[{"zz": "a"}, {"a": "A"}])

    def test_wrong_texts(self):
        right, agenda = write_rule(CLAIM, BOTH), write_agenda(CLAIM)
        for value in wrong_values():
            if not isinstance(value, str):
                self.refuse(InvalidOperation, Shell, value, {})
        for text, index in (("", 0), ("issues a b\nrow", 1), ("issues a b\nrow 00", 2), (agenda + "\n", 5)):
            self.refuse(ParseError, Shell, text, {"all": right}, index=index)
            self.refuse(ParseError, Shell, text, {"all": ""}, index=index)
        for text, index in (("", 0), (right + "\n", 4), ("voters 2\nissue both", 1), ("voters 2\nissue p 01", 2),
                            (write_rule(PAIR, Rule.of_voter(("a", "b"), 1, 0)), 3)):
            self.refuse(ParseError, Shell, agenda, {"all": text}, index=index)
            self.refuse(ParseError, Shell, agenda, {"a": right, "b": text, "c": "x"}, index=index)

    def test_the_first_wrong_rule_decides(self):
        agenda, either = write_agenda(CLAIM), write_rule(CLAIM, way_rule(CLAIM.issues, "either"))
        with self.assertRaises(NoRow) as caught:
            Shell(agenda, {"c": "x", "b": either, "a": write_rule(CLAIM, BOTH)})
        self.assertIs(is_breach(CLAIM, way_rule(CLAIM.issues, "either"), caught.exception.votes), True)
        self.refuse(ParseError, Shell, agenda, {"b": either, "a": "x"}, index=0)
        self.refuse(ParseError, Shell, agenda, {"a": "voters 9\nissue a 01", "b": either}, index=2)
        full = Agenda.free(SIX)
        four = write_rule(full, Rule.of_voter(SIX, 4, 0))
        self.refuse(TooMany, Shell, write_agenda(full), {"a": four, "b": ""}, limit=200000)
        self.refuse(ParseError, Shell, write_agenda(full), {"b": four, "a": ""}, index=0)


class LineTest(ShellTest):
    def test_no_commands(self):
        shell = claim_shell()
        for line in ("", " ", "what", "none", "Agenda", "agenda ", " agenda", "agenda  ", "agenda x", "agendas", "vote",
                     "vote ann", "vote ann 010 ", "vote  ann 010", "vote ann  010", " vote ann 010", "vote ann 010 1",
                     "vote Ann 010", "vote ann 020", "vote ann 0 1 0", "vote 010 ann", "vote ann x", "vote ann\t010",
                     "vote ann 010\n", "vote abcdefghi 010", "keep", "keep x", "keep x 2", "keep x two 0001 0001 0001",
                     "keep x 02 0001 0001 0001", "keep x -1 0001 0001 0001", "keep X 2 0001 0001 0001",
                     "keep x 2 0001 0001 0002", "keep x 2 0001 a 0001", "keep 2 0001 0001 0001",
                     "keep x 2  0001 0001 0001", "keep x 2 0001 0001 0001 ", "forget", "forget all x", "forget 1",
                     "forget All", "leave", "leave ann bob", "leave 0", "add", "add 01 1", "add x", "add 012", "take",
                     "take 010 010", "take b", "drop", "drop p q", "drop 1", "drop P", "turn", "turn p 1", "turn p  q",
                     "turn ", "undo x", "undo 1 1", "undo -1", "undo 01", "undo ", "undo 1.0", "undo " + "1" * 61,
                     "redo x", "redo 1 1", "redo 00", "redo ", "names x", "people ", "rule", "rule 1", "rule all all",
                     "row", "row ann bob", "row 1", "outcome", "outcome all", "outcome all ann 1", "outcome all  ann",
                     "outcome 1 ann", "clashes x", "links ", "knots 1", "blocked ?", "twos 2", "another", "another x",
                     "another 1 2", "another -1", "another 01", "another two", "paper 1", "even 1", "ways both", "help",
                     "agenda\nnames", "names\n", "a" * 4000, "vote ann " + "\n"):
            self.asks(shell, line, "what")

    def test_no_lines(self):
        shell = claim_shell()
        for value in wrong_values():
            self.asks(shell, value, "what")
        for value in (["agenda"], ("agenda",), {"agenda": 1}, b"agenda"):
            self.asks(shell, value, "what")

    def test_each_command_with_a_word_more(self):
        shell = claim_shell()
        for command in COMMANDS:
            self.asks(shell, f"{command} ?", "what")
            self.asks(shell, f"{command}  ", "what")
            self.asks(shell, command.upper(), "what")

    def test_calls_with_one_line(self):
        with self.assertRaises(TypeError):
            claim_shell()("agenda", "names")


class DoTest(ShellTest):
    def test_what_the_desk_does(self):
        shell = over(CLAIM)
        self.does(shell, "keep all 2 0001 0001 0001", "keep", "all", BOTH)
        self.does(shell, "keep one 1 01 01 01", "keep", "one", Rule.of_voter(CLAIM.issues, 1, 0))
        mixed = Rule(2, {"both": (0, 0, 0, 1), "p": (0, 0, 0, 1), "q": (0, 0, 0, 1)})
        self.does(shell, "keep all 2 0001 0001 0001", "keep", "all", mixed)
        self.does(shell, "vote ann 010", "vote", "ann", (0, 1, 0))
        self.does(shell, "vote ann 111", "vote", "ann", (1, 1, 1))
        self.does(shell, "vote bob 001", "vote", "bob", (0, 0, 1))
        self.does(shell, "leave ann", "leave", "ann")
        self.does(shell, "forget one", "forget", "one")
        self.does(shell, "turn q", "turn", ("q",))
        self.does(shell, "turn both p q", "turn", ("both", "p", "q"))
        self.does(shell, "forget all", "forget", "all")
        self.does(shell, "undo", "undo")
        self.does(shell, "undo 2", "undo", many=2)
        self.does(shell, "redo", "redo")
        self.does(shell, "redo 2", "redo", many=2)
        self.does(shell, "undo 0", "undo", many=0)
        self.does(shell, "redo 0", "redo", many=0)
        self.does(shell, "add 000", "add", (0, 0, 0))
        self.does(shell, "take 000", "take", (0, 0, 0))
        self.does(shell, "drop p", "drop", "p")

    def test_tables_stand_in_the_order_of_the_issues(self):
        shell = over(FREE)
        self.assertEqual(shell("keep x 2 0001 0011"), "done")
        self.assertEqual(shell.desk()["x"], Rule(2, {"a": (0, 0, 0, 1), "b": (0, 0, 1, 1)}))
        self.assertEqual(shell("rule x"), "voters 2\nissue a 0001\nissue b 0011")

    def test_another_number_of_tables(self):
        shell = claim_shell()
        # It is told ahead of all other errors.
        for line in ("keep x 2 0001", "keep x 2 0001 0001", "keep x 2 0001 0001 0001 0001", "keep x 9 0",
                     "keep all 0 1 1", "keep x " + "9" * 60 + " 0001"):
            self.asks(shell, line, "rule")

    def test_wrong_rules(self):
        shell = claim_shell()
        self.asks(shell, "keep x 9 0001 0001 0001", "number 9")
        self.asks(shell, "keep x 0 1 1 1", "number 0")
        self.asks(shell, "keep x " + "9" * 60 + " 0 0 0", "number " + "9" * 60)
        for tables in ("001 001 001", "0001 0001 01", "1001 0001 0001", "0000 0001 0001", "00010001 0001 0001"):
            self.asks(shell, f"keep x 2 {tables}", "rule")
        answer = shell("keep x 2 0111 0111 0111").split(" ")
        self.assertEqual((answer[0], len(answer)), ("norow", 3))
        votes = tuple(tuple(int(sign) for sign in word) for word in answer[1:])
        self.assertIs(is_breach(CLAIM, way_rule(CLAIM.issues, "either"), votes), True)
        self.asks(shell, "names", "all")

    def test_errors(self):
        shell = claim_shell()
        for line, answer in (("forget x", "unknown x"), ("leave x", "unknown x"), ("leave all", "unknown all"),
                             ("vote ann 100", "operation"), ("vote ann 01", "operation"), ("vote new 0", "operation"),
                             ("add 010", "operation"), ("add 0000", "operation"), ("take 100", "operation"),
                             ("take 0", "operation"), ("take 010", "operation"), ("drop x", "unknown x"),
                             ("turn q p", "operation"), ("turn p p", "operation"), ("turn x", "operation"),
                             ("undo 4", "undo 4"), ("undo " + "9" * 60, "undo " + "9" * 60), ("redo", "undo 1"),
                             ("redo 7", "undo 7"), ("rule x", "unknown x"), ("rule ann", "unknown ann"),
                             ("row x", "unknown x"), ("row all", "unknown all"), ("outcome x ann", "unknown x"),
                             ("outcome all ann eve", "unknown eve"), ("outcome all ann", "operation"),
                             ("outcome all eve", "unknown eve"), ("outcome all ann bob ann", "operation"),
                             ("outcome x eve eve", "unknown x"), ("another 0", "number 0"), ("another 5", "number 5"),
                             ("another " + "7" * 60, "number " + "7" * 60)):
            self.asks(shell, line, answer)

    def test_no_agenda_without_the_row_or_the_issue(self):
        shell = over(PAIR)
        self.asks(shell, "take 01", "agenda")
        self.assertEqual(shell("drop a"), "done")
        self.asks(shell, "drop b", "operation")
        self.asks(shell, "drop a", "unknown a")

    def test_broken_rules(self):
        shell = Shell(write_agenda(FREE), {"half": "voters 2\nissue a 0001\nissue b 0011"})
        answer = shell("take 01").split(" ")
        self.assertEqual((answer[:2], len(answer)), (["broken", "half"], 4))
        rule = Rule(2, {"a": (0, 0, 0, 1), "b": (0, 0, 1, 1)})
        votes = tuple(tuple(int(sign) for sign in word) for word in answer[2:])
        self.assertIs(is_breach(FREE.without_row((0, 1)), rule, votes), True)
        self.asks(shell, "take 01", " ".join(answer))

    def test_too_many_votes(self):
        shell = over(Agenda.free(SIX))
        self.asks(shell, "keep x 4" + " 0000000011111111" * 6, "many 200000")
        shell = over(Agenda(SIX, VALUES[:57] + VALUES[-1:]))
        self.assertEqual(self.soon(shell, "keep x 3" + " 00001111" * 6), "done")
        self.asks(shell, "add " + figures(VALUES[60]), "many 200000")


class AskTest(ShellTest):
    def test_names_and_rows(self):
        shell = claim_shell()
        self.asks(shell, "names", "all")
        self.asks(shell, "people", "ann bob")
        self.asks(shell, "row ann", "010")
        self.asks(shell, "outcome all ann bob", "010")
        self.asks(shell, "outcome all bob bob", "111")
        self.asks(shell, "rule all", "voters 2\nissue both 0001\nissue p 0001\nissue q 0001")
        self.asks(shell, "agenda", "issues both p q\nrow 000\nrow 001\nrow 010\nrow 111")
        shell("keep a 1 01 01 01")
        shell("leave ann")
        shell("leave bob")
        self.asks(shell, "names", "a all")
        self.asks(shell, "people", "none")

    def test_what_the_agenda_is(self):
        for agenda in small_agendas()[::7] + mixed_agendas(2) + [PAIR, CLAIM, EVEN, ORDERS, Agenda.free(SIX)]:
            shell = over(agenda)
            self.asks(shell, "agenda", write_agenda(agenda))
            for line, parts in (("clashes", least_clashes(agenda)), ("links", links(agenda)), ("knots", knots(agenda)),
                                ("even", [tuple(sides.items()) for sides in even_sides(agenda)])):
                told = "\n".join(", ".join(f"{issue} {value}" for issue, value in part) for part in parts)
                self.asks(shell, line, told or "none")
            self.asks(shell, "blocked", "yes" if len(knots(agenda)) == 1 else "no")
            self.asks(shell, "twos", str(len(closed_sets(agenda))))
            self.asks(shell, "ways", " ".join(ways(agenda)) or "none")

    def test_told_word_by_word(self):
        shell = over(PAIR)
        self.asks(shell, "clashes", "a 0, b 0\na 1, b 1")
        self.asks(shell, "links", "a 0, b 1\na 1, b 0\nb 0, a 1\nb 1, a 0")
        self.asks(shell, "knots", "a 0, b 1\na 1, b 0")
        self.asks(shell, "even", "a 0, b 1\na 1, b 0")
        self.asks(shell, "ways", "most sum")
        shell = over(FREE)
        for line, answer in (("clashes", "none"), ("links", "none"), ("knots", "a 0\na 1\nb 0\nb 1"), ("blocked", "no"),
                             ("twos", "16"), ("ways", "both either most sum"), ("names", "none"), ("people", "none"),
                             ("even", "a 0, b 0\na 0, b 1\na 1, b 0\na 1, b 1")):
            self.asks(shell, line, answer)
        shell = over(ORDERS)
        for line, answer in (("even", "none"), ("ways", "none"), ("blocked", "yes"), ("twos", "2")):
            self.asks(shell, line, answer)

    def test_other_rules(self):
        for agenda in (PAIR, CLAIM, EVEN, ORDERS, FREE):
            shell = over(agenda)
            for voters in (1, 2, 3, 4):
                answer, right = shell(f"another {voters}"), another(agenda, voters)
                if right is None:
                    self.assertEqual(answer, "none")
                else:
                    self.assertEqual(answer, write_rule(agenda, right))
                    self.assertIsNone(read_rule(agenda, answer).followed())

    def test_papers(self):
        for agenda in (PAIR, CLAIM, EVEN, ORDERS, FREE, Agenda.free(SIX)):
            word, *lines = over(agenda)("paper").split("\n")
            if word == "another":
                self.assertIs(is_paper(agenda, ("another", read_rule(agenda, "\n".join(lines)))), True)
            else:
                self.assertEqual((word, len(lines)), ("one", 2))
                self.assertIs(is_paper(agenda, ("one", read_value(lines[0]), read_value(lines[1]))), True)
        self.assertEqual(over(ORDERS)("paper").split("\n")[0], "one")
        self.assertEqual(over(EVEN)("paper").split("\n")[0], "another")

    def test_six_issues(self):
        agenda = Agenda(SIX, VALUES[1:-1])
        shell = over(agenda)
        for line in ("clashes", "links", "knots", "blocked", "twos", "another 4", "paper", "even", "ways", "agenda"):
            self.assertIsInstance(self.soon(shell, line), str)
        self.assertEqual(shell("blocked"), "yes")

    def test_long_histories(self):
        shell = claim_shell()
        for number in range(2000):
            self.assertEqual(shell(f"vote ann {figures(CLAIM.rows[number % 4])}"), "done")
        self.assertEqual([self.soon(shell, "undo 2003"), shell("undo"), shell("redo 2003"), shell("row ann")],
                         ["done", "undo 1", "done", "111"])
        with self.assertRaises(NothingToUndo):
            shell.desk().redo()


if __name__ == "__main__":
    unittest.main()
