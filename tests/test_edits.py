"""Agendas made of other agendas: stage 2."""

import unittest
from itertools import permutations, product

from oneswill.base.agendas import Agenda
from oneswill.errors import InvalidAgenda, InvalidOperation
from tests.common import CLAIM, EVEN, ORDERS, PAIR, SIX, Calls, shown, small_agendas, subsets, told, wrong_values


class EditsTest(Calls):
    def expect(self, agenda, issues, rows):
        """The agenda has just these issues, and rows told as sets of answers, and is a right one."""
        self.assertIs(type(agenda), Agenda)
        self.assertEqual(agenda.issues, tuple(sorted(issues)))
        self.assertEqual(told(agenda), rows)
        self.assertEqual(agenda, Agenda(agenda.issues, agenda.rows))


class RowsTest(EditsTest):
    def test_with_row(self):
        self.assertEqual(PAIR.with_row((1, 1)).rows, ((0, 1), (1, 0), (1, 1)))
        for agenda in small_agendas():
            for values in product((0, 1), repeat=len(agenda.issues)):
                before = shown(agenda)
                if values in agenda.rows:
                    self.refuse(InvalidOperation, agenda.with_row, values)
                else:
                    one_more = told(agenda) | {frozenset(zip(agenda.issues, values))}
                    self.expect(agenda.with_row(values), agenda.issues, one_more)
                self.assertEqual(shown(agenda), before)

    def test_with_a_wrong_row(self):
        for row in ((0,), (0, 0, 0), (True, True), (0, False), (1, 2), (1, -1), [1, 1], "11", (), None, 0, ("a", 1)):
            self.refuse(InvalidOperation, PAIR.with_row, row)
        for row in wrong_values():
            self.refuse(InvalidOperation, EVEN.with_row, row)

    def test_without_row(self):
        for agenda in small_agendas():
            for row in agenda.rows:
                before = shown(agenda)
                rest = [kept for kept in agenda.rows if kept != row]
                if all(len(set(column)) == 2 for column in zip(*rest)) and rest:
                    fewer = told(agenda) - {frozenset(zip(agenda.issues, row))}
                    self.expect(agenda.without_row(row), agenda.issues, fewer)
                else:
                    self.refuse(InvalidAgenda, agenda.without_row, row)
                self.assertEqual(shown(agenda), before)

    def test_two_rows_that_differ_everywhere(self):
        self.refuse(InvalidAgenda, PAIR.without_row, (0, 1))
        self.refuse(InvalidAgenda, PAIR.without_row, (1, 0))

    def test_without_what_is_no_row(self):
        # No row leaves an agenda here, but a value that is no row is told first.
        for row in ((0, 0), (1, 1), (False, True), (True, 0), [0, 1], (0,), (0, 1, 0), "01", None, 0, ()):
            self.refuse(InvalidOperation, PAIR.without_row, row)
        for row in wrong_values():
            self.refuse(InvalidOperation, PAIR.without_row, row)

    def test_to_and_fro(self):
        self.assertEqual(CLAIM.with_row((1, 0, 1)).without_row((1, 0, 1)), CLAIM)


class TurnedTest(EditsTest):
    def test_turned(self):
        for agenda in small_agendas():
            for issues in subsets(agenda.issues):
                before = shown(agenda)
                rows = {frozenset((issue, 1 - value if issue in issues else value) for issue, value in row)
                        for row in told(agenda)}
                self.expect(agenda.turned(issues), agenda.issues, rows)
                self.assertEqual(agenda.turned(issues).turned(issues), agenda)
                self.assertEqual(shown(agenda), before)

    def test_turned_by_none(self):
        self.assertEqual(CLAIM.turned(()), CLAIM)

    def test_turned_keeps_kinds(self):
        self.assertEqual(repr(PAIR.turned(("b",)).rows), "((0, 0), (1, 1))")

    def test_no_set_of_issues(self):
        for issues in (("b", "a"), ("a", "a"), ("c",), ("a", "c"), ["a"], [], "a", "", {}, {"a": 1}, None, 0, (0,),
                       (True,), (None,), (("a",),), (["a"],), ("A",), ("a", "b", "c")):
            self.refuse(InvalidOperation, PAIR.turned, issues)
        for issues in wrong_values():
            self.refuse(InvalidOperation, PAIR.turned, issues)


class RenamedTest(EditsTest):
    def test_renamed(self):
        for agenda in small_agendas():
            for issues in subsets(agenda.issues)[:12]:
                for new in permutations(("aa", "both", "c", "zz"), len(issues)) if len(issues) < 5 else ():
                    self.check_renamed(agenda, dict(zip(issues, new)))

    def check_renamed(self, agenda, names):
        before, passed = shown(agenda), repr(names)
        new = [names.get(issue, issue) for issue in agenda.issues]
        if len(set(new)) < len(new):
            self.refuse(InvalidOperation, agenda.renamed, names)
        else:
            rows = {frozenset((names.get(issue, issue), value) for issue, value in row) for row in told(agenda)}
            self.expect(agenda.renamed(names), new, rows)
        self.assertEqual((shown(agenda), repr(names)), (before, passed))

    def test_by_the_empty_dict(self):
        self.assertEqual(CLAIM.renamed({}), CLAIM)

    def test_to_the_same_name(self):
        self.assertEqual(CLAIM.renamed({"p": "p"}), CLAIM)

    def test_two_names_exchanged(self):
        agenda = Agenda(("a", "b"), ((0, 0), (0, 1), (1, 1)))
        self.assertEqual(agenda.renamed({"a": "b", "b": "a"}), Agenda(("a", "b"), ((0, 0), (1, 0), (1, 1))))

    def test_the_order_of_the_columns_changes(self):
        agenda = CLAIM.renamed({"both": "z"})
        self.assertEqual((agenda.issues, agenda.rows), (("p", "q", "z"), ((0, 0, 0), (0, 1, 0), (1, 0, 0), (1, 1, 1))))

    def test_the_order_of_the_dict_has_no_effect(self):
        one, other = {"p": "c", "q": "a"}, {"q": "a", "p": "c"}
        self.assertEqual(shown(CLAIM.renamed(one)), shown(CLAIM.renamed(other)))

    def test_two_issues_of_one_name(self):
        for names in ({"a": "b"}, {"b": "a"}, {"a": "c", "b": "c"}, {"a": "b", "b": "b"}):
            self.refuse(InvalidOperation, PAIR.renamed, names)

    def test_no_such_dict(self):
        for names in ({"c": "d"}, {"a": "A"}, {"a": ""}, {"a": "abcdefghi"}, {"a": 0}, {"a": None}, {"a": ("x",)},
                      {0: "x"}, {True: "x"}, {None: "x"}, {("a",): "x"}, (("a", "x"),), ("a", "x"), ["a"], [], (), "",
                      "a", None, 0, False, {"a": "x", "c": "y"}, {"a": "x", "b": "b1"}):
            self.refuse(InvalidOperation, PAIR.renamed, names)
        for names in wrong_values():
            if names != {}:
                self.refuse(InvalidOperation, PAIR.renamed, names)

    def test_it_keeps_nothing_of_the_dict(self):
        names = {"a": "c"}
        agenda = PAIR.renamed(names)
        names["b"] = "x"
        self.assertEqual(agenda.issues, ("b", "c"))


class OnlyTest(EditsTest):
    def test_only(self):
        for agenda in small_agendas():
            for issues in subsets(agenda.issues)[1:]:
                before = shown(agenda)
                rows = {frozenset(answer for answer in row if answer[0] in issues) for row in told(agenda)}
                self.expect(agenda.only(issues), issues, rows)
                self.assertEqual(shown(agenda), before)

    def test_with_all_issues(self):
        self.assertEqual(ORDERS.only(ORDERS.issues), ORDERS)

    def test_no_set_of_issues(self):
        for issues in ((), ("b", "a"), ("a", "a"), ("c",), ("a", "c"), ["a"], [], "a", "", {}, {"a": 1}, None, 0, (0,),
                       (True,), (None,), (("a",),), (["a"],), ("a", "b", "c")):
            self.refuse(InvalidOperation, PAIR.only, issues)
        for issues in wrong_values():
            self.refuse(InvalidOperation, PAIR.only, issues)


class FixedTest(EditsTest):
    def test_fixed(self):
        for agenda in small_agendas():
            for answer in agenda.answers:
                before = shown(agenda)
                rows = {row - {answer} for row in told(agenda) if answer in row}
                issues = [issue for issue in agenda.issues if issue != answer[0]]
                both = {(issue, value) for issue in issues for value in (0, 1)}
                if issues and both <= {other for row in rows for other in row}:
                    self.expect(agenda.fixed(answer), issues, rows)
                else:
                    self.refuse(InvalidAgenda, agenda.fixed, answer)
                self.assertEqual(shown(agenda), before)

    def test_no_agenda_is_left(self):
        self.refuse(InvalidAgenda, CLAIM.fixed, ("both", 1))
        self.refuse(InvalidAgenda, PAIR.fixed, ("a", 0))
        self.refuse(InvalidAgenda, Agenda.free(("a",)).fixed, ("a", 1))

    def test_no_answer(self):
        for answer in (("c", 0), ("a", True), ("a", False), ("a", 2), ("a", -1), ("a",), ("a", 0, 0), ["a", 0], "a0",
                       (), None, 0, ("A", 0), (0, "a"), {"a": 0}, (("a", 0),), ("a", None), "a", (["a"], 0),
                       (("a",), 0)):
            for agenda in (PAIR, Agenda.free(("a",)), Agenda.free(("a", "b"))):
                self.refuse(InvalidOperation, agenda.fixed, answer)
        for answer in wrong_values():
            self.refuse(InvalidOperation, PAIR.fixed, answer)


class BesideTest(EditsTest):
    def check_sum(self, one, other):
        before = (shown(one), shown(other))
        rows = {row | more for row in told(one) for more in told(other)}
        self.expect(one + other, one.issues + other.issues, rows)
        self.assertEqual(len(one + other), len(one) * len(other))
        self.assertEqual(one + other, other + one)
        self.assertEqual((shown(one), shown(other)), before)

    def test_sums(self):
        for one in small_agendas()[:40]:
            self.check_sum(one, PAIR.renamed({"a": "aa", "b": "d"}))
            self.check_sum(one, Agenda.free(("bb",)))
        self.check_sum(EVEN, ORDERS)
        self.check_sum(PAIR, CLAIM)
        self.check_sum(Agenda.free(SIX[:5]), Agenda.free(("f",)))

    def test_the_columns_are_put_in_order(self):
        agenda = Agenda(("a", "c"), ((0, 1), (1, 0))) + Agenda.free(("b",))
        self.assertEqual(shown(agenda), repr((("a", "b", "c"), ((0, 0, 1), (0, 1, 1), (1, 0, 0), (1, 1, 0)))))

    def test_a_common_issue(self):
        for one, other in ((PAIR, EVEN), (EVEN, PAIR), (PAIR, PAIR), (CLAIM, Agenda.free(("a", "q")))):
            self.refuse(InvalidAgenda, lambda: one + other)

    def test_more_than_six_issues(self):
        self.assertEqual(len((EVEN + ORDERS).issues), 6)
        self.refuse(InvalidAgenda, lambda: EVEN + ORDERS + Agenda.free(("z",)))
        self.refuse(InvalidAgenda, lambda: Agenda.free(SIX) + Agenda.free(("g",)))
        self.refuse(InvalidAgenda, lambda: Agenda.free(SIX) + Agenda.free(("g", "h", "i", "j", "k", "l")))

    def test_no_agenda(self):
        for value in wrong_values() + [PAIR.rows, (PAIR.issues, PAIR.rows), "PAIR", ()]:
            if not isinstance(value, Agenda):
                self.refuse(InvalidOperation, lambda: ORDERS + value)
                self.refuse(InvalidOperation, lambda: value + ORDERS)


class StateTest(unittest.TestCase):
    def test_nothing_that_was_returned_changes(self):
        agenda = CLAIM.with_row((1, 0, 0))
        returned = (agenda.issues, agenda.rows, agenda.answers, list(agenda))
        before = repr(returned)
        returned[3].append((9, 9, 9))
        self.assertEqual(list(agenda), list(agenda.rows))
        for call in (agenda.without_row, agenda.with_row, agenda.turned, agenda.only, agenda.fixed, agenda.renamed):
            for value in ((1, 0, 0), (1, 1, 0), ("p",), ("both", "q"), ("p", 0), {"p": "x"}, None):
                try:
                    call(value)
                except (InvalidOperation, InvalidAgenda):
                    pass
        self.assertEqual(repr((agenda.issues, agenda.rows, agenda.answers, list(agenda))), before)

    def test_equal_calls_give_equal_results(self):
        for agenda in small_agendas():
            again = Agenda(agenda.issues, agenda.rows)
            last = agenda.issues[-1:]
            self.assertEqual(shown(agenda.turned(last)), shown(again.turned(last)))
            self.assertEqual(shown(agenda.only(last)), shown(again.only(last)))
            self.assertEqual(shown(agenda.renamed({last[0]: "aaa"})), shown(again.renamed({last[0]: "aaa"})))


if __name__ == "__main__":
    unittest.main()
