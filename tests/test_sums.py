"""Sums of rows and of voters: points [0.11], [0.14] and [8.1] and stage 8."""

import unittest
from itertools import combinations, product

from oneswill.base.agendas import Agenda
from oneswill.errors import InvalidAgenda, InvalidNumber, InvalidOperation, InvalidRule
from oneswill.rule.rules import Rule
from oneswill.rule.sums import is_summed, is_sums_paper, sum_rule, summed_voters, sums_paper
from tests.common import BOTH, CLAIM, EVEN, MOST, ORDERS, PAIR, SIX, Calls, all_rules, is_rule_for, small_agendas
from tests.common import subsets, wrong_values

FREE = Agenda.free(("a", "b"))
VALUES = tuple(product((0, 1), repeat=6))
PARITY = Agenda(SIX, tuple(row for row in VALUES if sum(row) % 2 == 1))
NO_PAPERS = (("sums",), ("rows",), ("sums", (), ()), ["sums", ()], ("sums", []), ("sums", None), ("sums", "ab"),
             ("sum", ()), ("row", ()), "sums", None, 0, (), {}, ((), "sums"), (("sums",), ()), (None, ()), (0, 1),
             ("sums", 0), ("rows", 0), ("rows", None), ("rows", ()), PAIR, BOTH, (PAIR, ()), ("sums", PAIR))


def added(rows):
    """The sum of rows, told by the document's words alone."""
    return tuple(sum(column) % 2 for column in zip(*rows))


def solutions(issues, equations):
    """All tuples of values that solve these equations."""
    rows = [dict(zip(issues, row)) for row in product((0, 1), repeat=len(issues))]
    return tuple(tuple(row.values()) for row in rows
                 if all(sum(row[issue] for issue in chosen) % 2 == value for chosen, value in equations))


class SummedTest(Calls):
    def test_just_those_with_all_sums(self):
        for agenda in [*small_agendas()[::2], PARITY]:
            if len(agenda) <= 16:
                right = all(added(rows) in agenda.rows for rows in combinations(agenda.rows, 3))
                self.assertIs(self.told(is_summed, agenda), right)
                if right:
                    self.assertIn(len(agenda), (2, 4, 8, 16))

    def test_six_issues(self):
        for agenda, right in ((PARITY, True), (Agenda.free(SIX), True), (PARITY.with_row((0,) * 6), False),
                              (PARITY.without_row(PARITY.rows[0]), False), (Agenda(SIX, VALUES[1:]), False)):
            self.assertIs(self.soon(is_summed, agenda), right)
            found = self.soon(sums_paper, agenda)
            self.assertEqual(found[0], "sums" if right else "rows")
            self.assertIs(self.soon(is_sums_paper, agenda, found), True)

    def test_three_voters_are_summed_just_for_summed_agendas(self):
        for agenda in small_agendas()[::5]:
            if len(agenda) <= 8:
                self.assertIs(is_rule_for(agenda, sum_rule(agenda.issues, 3, (0, 1, 2))), is_summed(agenda))


class PaperTest(Calls):
    def test_papers(self):
        for agenda in [*small_agendas(), PARITY]:
            kind, shown = found = self.told(sums_paper, agenda)
            self.assertIs(is_sums_paper(agenda, found), True)
            self.assertEqual(kind, "sums" if is_summed(agenda) else "rows")
            if kind == "sums":
                self.check_sums(agenda, shown)
            else:
                self.check_rows(agenda, shown)

    def check_sums(self, agenda, equations):
        self.assertEqual(repr(solutions(agenda.issues, equations)), repr(agenda.rows))
        # Each equation that does not follow from the others halves the solutions.
        self.assertEqual(len(agenda) * 2 ** len(equations), 2 ** len(agenda.issues))
        for chosen, value in equations:
            self.assertEqual(chosen, tuple(sorted(set(chosen))))
            self.assertIn(repr(value), "01")

    def check_rows(self, agenda, rows):
        self.assertTrue(len(rows) == 3 and added(rows) not in agenda.rows)
        self.assertTrue(all(row in agenda.rows for row in rows))
        if len(agenda) <= 8:
            tried = product(agenda.rows, repeat=3)
            self.assertEqual(rows, next(found for found in tried if added(found) not in agenda.rows))

    def test_the_first_rows_in_pythons_order(self):
        # The sums with the first two rows are all rows, so the second one is not among the three.
        rows = ((0, 0, 0), (0, 0, 1), (0, 1, 0), (0, 1, 1), (1, 0, 0), (1, 0, 1))
        agenda = Agenda(("a", "b", "c"), rows)
        self.assertEqual(sums_paper(agenda), ("rows", ((0, 0, 0), (0, 1, 0), (1, 0, 0))))

    def test_equations_repeated_joined_and_of_no_issue(self):
        one, none = (("a", "b", "c"), 0), ((), 0)
        for equations in ((one,), (one, one), (none, one), (one, none, none), (one,) * 200):
            self.assertIs(is_sums_paper(EVEN, ("sums", equations)), True)
        agenda = Agenda(("a", "b", "c"), ((0, 0, 1), (1, 1, 0)))
        first, second, third = (("a", "b"), 0), (("a", "c"), 1), (("b", "c"), 1)
        for equations in ((first, second), (second, first), (third, first), (second, third), (first, second, third)):
            self.assertIs(is_sums_paper(agenda, ("sums", equations)), True)
        for equations in ((first,), (second,), (), (none,), (first, first)):
            self.assertIs(is_sums_paper(agenda, ("sums", equations)), False)

    def test_equations_with_other_solutions(self):
        for equations in ((), (((), 0),), ((("a", "b", "c"), 1),), ((("a", "b"), 0),),
                          ((("a", "b", "c"), 0), (("a",), 0)),
                          (((), 1),), ((("a", "b", "c"), 0), ((), 1)), ((("a", "b", "c"), 0), (("a", "b", "c"), 1))):
            self.assertIs(is_sums_paper(EVEN, ("sums", equations)), False, equations)
        self.assertIs(is_sums_paper(FREE, ("sums", ())), True)
        self.assertIs(is_sums_paper(FREE, ("sums", (((), 0),))), True)
        self.assertIs(is_sums_paper(FREE, ("sums", (((), 1),))), False)

    def test_no_equations(self):
        one = (("a", "b", "c"), 0)
        for wrong in ((("a", "b", "c"), False), (("a", "b", "c"), 2), (("a", "b", "c"), None), (("c", "b", "a"), 0),
                      (("a", "b", "c", "d"), 0), (("a", "a", "b", "c"), 0), (["a", "b", "c"], 0), ("abc", 0),
                      [("a", "b", "c"), 0], (("a", "b", "c"),), (("a", "b", "c"), 0, 0), ("a", 0), None, 0, "", (), {},
                      (("z",), 0), ((), True), ((), False), (None, 0), (([],), 0), ((("a",),), 0), PAIR, (PAIR, 0)):
            self.assertIs(is_sums_paper(EVEN, ("sums", (wrong,))), False, wrong)
            self.assertIs(is_sums_paper(EVEN, ("sums", (one, wrong))), False, wrong)
        self.assertIs(is_sums_paper(EVEN, ("sums", [one])), False)
        self.assertIs(is_sums_paper(EVEN, ("sums", {one: 0})), False)

    def test_three_rows(self):
        for rows in product(ORDERS.rows, repeat=3):
            right = added(rows) not in ORDERS.rows
            self.assertIs(is_sums_paper(ORDERS, ("rows", rows)), right, rows)
        for rows in product(product((0, 1), repeat=2), repeat=3):
            self.assertIs(is_sums_paper(PAIR, ("rows", rows)), False)

    def test_no_three_rows(self):
        one, two, three = (0, 0, 0), (0, 0, 1), (0, 1, 1)
        for rows in ((one, two), (one, two, three, three), (one, two, [0, 1, 1]), [one, two, three], (one, two, None),
                     (one, two, (0, 1, 0)), (one, two, (0, True, True)), (one, two, (0, 1)), (one, two, (0, 1, 1, 1)),
                     ((False, 0, 0), two, three), (), None, 0, "", {}, dict.fromkeys((one, two, three)), ORDERS):
            self.assertIs(is_sums_paper(ORDERS, ("rows", rows)), False, rows)
        self.assertIs(is_sums_paper(ORDERS, ("rows", (one, two, three))), True)
        for word in ("sums", "row", "Rows", "", None, 0, ("rows",), ORDERS):
            self.assertIs(is_sums_paper(ORDERS, (word, (one, two, three))), False)

    def test_no_papers(self):
        for value in NO_PAPERS:
            for agenda in (PAIR, ORDERS, EVEN):
                self.assertIs(is_sums_paper(agenda, value), False, value)
        for agenda in (PAIR, CLAIM):
            self.judge_wrong(is_sums_paper, agenda)

    def test_just_one_form_exists(self):
        for agenda in small_agendas()[::7]:
            kind, shown = sums_paper(agenda)
            for other in small_agendas()[::7]:
                if is_summed(other) is not is_summed(agenda):
                    self.assertIs(is_sums_paper(other, (kind, shown)), False)

    def test_no_agenda(self):
        for call, more in ((is_summed, ()), (sums_paper, ()), (is_sums_paper, (("sums", ()),))):
            self.refuse_wrong(InvalidAgenda, call, PAIR, *more, at=0, right=(PAIR, EVEN, CLAIM))
            self.refuse(InvalidAgenda, call, None, *[None for _ in more])


class SumRuleTest(Calls):
    def test_tables(self):
        for voters in range(1, 5):
            for summed in subsets(range(voters)):
                if len(summed) % 2 == 1:
                    rule = self.told(sum_rule, ("a", "bc"), voters, summed)
                    right = tuple(sum(values[voter] for voter in summed) % 2
                                  for values in product((0, 1), repeat=voters))
                    self.assertEqual(rule, Rule(voters, {"a": right, "bc": right}))
                    self.assertEqual(repr(self.told(summed_voters, rule)), repr(summed))
                else:
                    self.refuse(InvalidOperation, sum_rule, ("a", "bc"), voters, summed)

    def test_no_set_of_voters(self):
        for summed in ((), (0, 1), (3,), (0, 1, 3), (-1,), (0, 0, 1), (1, 0, 2), (0, 0, 0), (True,), (False,), [0],
                       0, "0",
                       None, {}, {0: 1}, ((0,),), (None,), (0, 1, True), (10 ** 59,), (10 ** 99,), ("0",), (0, 1, "2"),
                       (0, 1, None), ([0],), PAIR):
            self.refuse(InvalidOperation, sum_rule, ("a",), 3, summed)
        self.refuse_wrong(InvalidOperation, sum_rule, ("a",), 3, (0,), at=2, right=[(2,)])
        self.refuse(InvalidOperation, sum_rule, ("a",), 1, (1,))
        self.refuse(InvalidOperation, sum_rule, ("a",), 2, (0, 1, 2))

    def test_wrong_arguments_in_their_order(self):
        for issues in ((), SIX + ("g",), ("b", "a"), ["a"], "a", ("A",), None, {"a": 0}, PAIR):
            self.refuse(InvalidRule, sum_rule, issues, 1, (0,))
            self.refuse(InvalidRule, sum_rule, issues, 0, None)
        for voters in (0, 5, -1, True, None, "1", 10 ** 60, (1,)):
            self.refuse(InvalidNumber, sum_rule, ("a",), voters, (0,), value=voters)
            self.refuse(InvalidNumber, sum_rule, ("a",), voters, None, value=voters)
        self.refuse_wrong(InvalidRule, sum_rule, ("a",), 1, (0,), at=0, right=[("zz",)])
        self.refuse_wrong(InvalidNumber, sum_rule, ("a",), 1, (0,), at=1, right=[1, 2], keeps="value")


class SummedVotersTest(Calls):
    def test_just_the_sums(self):
        for voters, issues in ((1, ("a",)), (2, ("a", "b")), (3, ("a",))):
            for rule in all_rules(issues, voters):
                odd = [summed for summed in subsets(range(voters)) if len(summed) % 2 == 1]
                right = [summed for summed in odd if rule == sum_rule(issues, voters, summed)]
                self.assertEqual(repr(self.told(summed_voters, rule)), repr(right[0] if right else None))

    def test_nearly_a_sum(self):
        rule = sum_rule(("a", "b", "c"), 3, (0, 1, 2))
        for issue in rule.issues:
            tables = {name: rule[name] for name in rule.issues} | {issue: (0, 0, 0, 0, 1, 1, 1, 1)}
            self.assertIsNone(summed_voters(Rule(3, tables)))
        four = sum_rule(("a", "b"), 4, (0, 2, 3))
        for at in range(1, 15):
            table = four["b"]
            nearly = table[:at] + (1 - table[at],) + table[at + 1:]
            self.assertIsNone(summed_voters(Rule(4, {"a": table, "b": nearly})))
        self.assertEqual(summed_voters(four), (0, 2, 3))

    def test_other_rules(self):
        self.assertEqual([summed_voters(BOTH), summed_voters(MOST)], [None, None])
        self.assertEqual(summed_voters(Rule.of_voter(SIX, 4, 3)), (3,))

    def test_no_rule(self):
        for value in wrong_values():
            if not isinstance(value, Rule):
                self.refuse(InvalidRule, summed_voters, value)


if __name__ == "__main__":
    unittest.main()
