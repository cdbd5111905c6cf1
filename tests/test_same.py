"""One table for all issues: points [0.17] and [11.1] and stage 11."""

import unittest
from itertools import product

from oneswill.base.agendas import Agenda
from oneswill.errors import InvalidAgenda, InvalidNumber, InvalidOperation, InvalidRule, TooMany
from oneswill.link.links import is_blocked
from oneswill.rule.rules import Rule
from oneswill.rule.same import WAYS, is_same, is_way_paper, same_rule, tables_for_all, way_paper, way_rule, ways
from oneswill.rule.sums import is_summed
from tests.common import BOTH, CLAIM, EVEN, MOST, ORDERS, PAIR, SIX, Calls, all_agendas, all_rules, deep, is_rule_for
from tests.common import least, mixed_agendas, parts_of, small_agendas

VALUES = tuple(product((0, 1), repeat=6))
# What each way says, in the words of the document.
SAID = {"both": lambda one, other: int(one == other == 1), "either": lambda one, other: int(1 in (one, other)),
        "most": lambda *values: int(sum(values) >= 2), "sum": lambda *values: sum(values) % 2}
FEW = [agenda for agenda in small_agendas() if len(agenda) <= 8][::3]
# No ways, but like some.
NO_WAYS = ("", "Both", "both ", "bot", "three", ("both",), ["both"], ("rule",), 0, 1, 2, 3, True, None, {"both": 1},
           b"both", "all", WAYS, PAIR, BOTH)


def tables(voters):
    """All tables for so many voters."""
    return [(0, *middle, 1) for middle in product((0, 1), repeat=2 ** voters - 2)]


def is_way(agenda, way):
    """Whether the rule of a way is one for the agenda, told by the document's words alone."""
    voters = 2 if way in ("both", "either") else 3
    said = SAID[way]
    return all(tuple(said(*column) for column in zip(*votes)) in agenda.rows
               for votes in product(agenda.rows, repeat=voters))


def shows(way, clash):
    """Whether a least clash has what the document asks of it."""
    if way == "most":
        return len(clash) >= 3
    return [value for _, value in clash].count({"both": 0, "either": 1}[way]) >= 2


class SameRuleTest(Calls):
    def test_each_issue_has_the_table(self):
        for voters in (1, 2, 3):
            for table in tables(voters)[::3]:
                rule = self.told(same_rule, SIX, voters, table)
                self.assertEqual(deep(rule), deep(Rule(voters, {issue: table for issue in SIX})))
                self.assertIs(is_same(rule), True)
        self.assertEqual(same_rule(("zz",), 4, (0,) * 15 + (1,))["zz"], (0,) * 15 + (1,))

    def test_no_tables(self):
        for table in ((0, 1, 1), (0, 0, 0, 1, 1), (1, 0, 0, 1), (0, 0, 0, 0), (0, True, 0, 1), (False, 0, 0, 1),
                      (0, 0, 0, True), (0, 2, 0, 1), [0, 0, 0, 1], (), (0, 1), (0, 0, 0, 1, 0, 1, 1, 1), "0001", None,
                      {"a": (0, 0, 0, 1)}, ((0, 0, 0, 1),), (0, None, 0, 1), BOTH):
            self.refuse(InvalidRule, same_rule, ("a", "b"), 2, table)
        self.refuse_wrong(InvalidRule, same_rule, ("a",), 1, (0, 1), at=2)

    def test_no_numbers(self):
        for number in (0, 5, -1, True, None, "2", 10 ** 60, (2,), [2]):
            self.refuse(InvalidNumber, same_rule, ("a",), number, (0, 0, 0, 1), value=number)
        self.refuse_wrong(InvalidNumber, same_rule, ("a",), 2, (0, 0, 0, 1), at=1, right=[1, 2], keeps="value")

    def test_no_issues(self):
        for issues in ((), ("b", "a"), ("a", "a"), ["a"], ("A",), SIX + ("g",), "a", None, ("a", 1), {"a": 1}):
            self.refuse(InvalidRule, same_rule, issues, 2, (0, 0, 0, 1))
            self.refuse(InvalidRule, way_rule, issues, "both")
        self.refuse_wrong(InvalidRule, same_rule, ("a",), 2, (0, 0, 0, 1), at=0, right=[("zz",)])
        self.refuse_wrong(InvalidRule, way_rule, ("a",), "sum", at=0, right=[("zz",)])

    def test_the_first_wrong_argument_decides(self):
        self.refuse(InvalidRule, same_rule, (), 9, None)
        self.refuse(InvalidNumber, same_rule, ("a",), 9, None, value=9)
        self.refuse(InvalidRule, way_rule, (), None)

    def test_whether_all_tables_are_equal(self):
        for rule in all_rules(("a", "b"), 2):
            self.assertIs(self.told(is_same, rule), rule["a"] == rule["b"])
        self.assertIs(is_same(MOST), True)
        self.assertIs(is_same(Rule(2, {"a": (0, 0, 0, 1), "b": (0, 0, 0, 1), "c": (0, 0, 1, 1)})), False)
        self.assertIs(is_same(Rule(4, {"a": (0,) * 15 + (1,)})), True)
        self.refuse_wrong(InvalidRule, is_same, BOTH, at=0, right=[BOTH, Rule(1, {"zz": (0, 1)})])


class WayTest(Calls):
    def test_the_ways(self):
        self.assertEqual(repr(WAYS), "('both', 'either', 'most', 'sum')")
        for way in WAYS:
            rule = self.told(way_rule, ("a", "b"), way)
            self.assertEqual(rule.voters, 2 if way in ("both", "either") else 3)
            self.assertEqual(rule.issues, ("a", "b"))
            for issue in rule:
                right = tuple(SAID[way](*values) for values in product((0, 1), repeat=rule.voters))
                self.assertEqual(repr(rule[issue]), repr(right))

    def test_no_ways(self):
        for way in NO_WAYS:
            self.refuse(InvalidOperation, way_rule, ("a",), way)
            self.refuse(InvalidOperation, way_paper, CLAIM, way)
            self.refuse(InvalidOperation, is_way_paper, CLAIM, way, ("rule",))
        self.refuse_wrong(InvalidOperation, way_rule, ("a",), "sum", at=1)
        self.refuse_wrong(InvalidOperation, way_paper, CLAIM, "sum", at=1)
        self.refuse_wrong(InvalidOperation, is_way_paper, CLAIM, "sum", None, at=1)

    def test_which_ways_are_rules(self):
        for agenda in FEW + [PAIR, EVEN, ORDERS, CLAIM]:
            right = tuple(way for way in WAYS if is_way(agenda, way))
            self.assertEqual(repr(self.told(ways, agenda)), repr(right))
            for way in WAYS:
                self.assertIs(is_rule_for(agenda, way_rule(agenda.issues, way)), way in right)

    def test_six_issues(self):
        for agenda, right in ((Agenda.free(SIX), WAYS), (Agenda(SIX, VALUES[1:]), ("either",)),
                              (Agenda(SIX, VALUES[:-1]), ("both",)), (Agenda(SIX, VALUES[1:-1]), ()),
                              (Agenda(SIX, tuple(row for row in VALUES if row[:2] != (0, 1))), WAYS[:3]),
                              (Agenda(SIX, tuple(row for row in VALUES if sum(row) % 2 == 0)), ("sum",))):
            self.assertEqual(self.soon(ways, agenda), right)
            for way in WAYS:
                self.assertIs(is_way_paper(agenda, way, self.soon(way_paper, agenda, way)), True)


class WayPaperTest(Calls):
    def test_papers(self):
        for agenda in small_agendas() + mixed_agendas(4):
            for way in WAYS:
                found = self.told(way_paper, agenda, way)
                self.assertIs(is_way_paper(agenda, way, found), True)
                self.check_paper(agenda, way, found)

    def check_paper(self, agenda, way, found):
        if found == ("rule",):
            self.assertIn(way, ways(agenda))
        elif way == "sum":
            self.assertEqual((found[0], len(found), len(found[1])), ("rows", 2, 3))
            self.assertIs(all(row in agenda.rows for row in found[1]), True)
            self.assertNotIn(tuple(sum(column) % 2 for column in zip(*found[1])), agenda.rows)
        else:
            self.assertEqual((found[0], len(found)), ("clash", 2))
            self.assertIn(found[1], least(agenda))
            self.assertIs(shows(way, found[1]), True)

    def test_just_one_form_exists(self):
        for agenda in FEW + [PAIR, EVEN, ORDERS, CLAIM]:
            clashes = least(agenda)
            for way in WAYS:
                right = is_way(agenda, way)
                self.assertIs(is_way_paper(agenda, way, ("rule",)), right)
                shown = [part for part in parts_of(agenda) if is_way_paper(agenda, way, ("clash", part))]
                wanted = [] if way == "sum" else [clash for clash in clashes if shows(way, clash)]
                self.assertEqual(sorted(shown), sorted(wanted))
                if way != "sum":
                    self.assertIs(wanted == [], right)

    def test_three_rows(self):
        for agenda in (PAIR, EVEN, ORDERS, CLAIM):
            for rows in product(agenda.rows, repeat=3):
                right = tuple(sum(column) % 2 for column in zip(*rows)) not in agenda.rows
                self.assertIs(is_way_paper(agenda, "sum", ("rows", rows)), right)
                for way in WAYS[:3]:
                    self.assertIs(is_way_paper(agenda, way, ("rows", rows)), False)
        rows = ((0, 0, 0), (0, 0, 1), (0, 1, 1))
        self.assertIs(is_way_paper(ORDERS, "sum", ("rows", rows)), True)
        for value in (("clash", rows), ("Rows", rows), ("rows", rows, rows), (rows, "rows"), ["rows", rows], ("sums", rows),
                      ("rule", rows), (None, rows), (rows,), (PAIR, rows)):
            self.assertIs(is_way_paper(ORDERS, "sum", value), False, value)
        for value in (rows[:2], rows + rows[:1], list(rows), [list(row) for row in rows], (0, 0, 0), None, (),
                      (rows[0], rows[1], (0, 1, True)), (rows[0], rows[1], (0, 1, 0)), (rows[0], rows[1], [0, 1, 1])):
            self.assertIs(is_way_paper(ORDERS, "sum", ("rows", value)), False, value)

    def test_clashes_that_show_another_way(self):
        zeros, ones = (("a", 0), ("b", 0)), (("a", 1), ("b", 1))
        self.assertIs(is_way_paper(PAIR, "both", ("clash", zeros)), True)
        self.assertIs(is_way_paper(PAIR, "both", ("clash", ones)), False)
        self.assertIs(is_way_paper(PAIR, "either", ("clash", ones)), True)
        self.assertIs(is_way_paper(PAIR, "either", ("clash", zeros)), False)
        self.assertIs(is_way_paper(PAIR, "most", ("clash", zeros)), False)
        # It has two answers with value 0, but is not least.
        clash = (("both", 1), ("p", 0), ("q", 0))
        self.assertIs(is_way_paper(CLAIM, "both", ("clash", clash)), False)
        self.assertIs(is_way_paper(CLAIM, "most", ("clash", clash)), False)
        right = (("both", 0), ("p", 1), ("q", 1))
        for way in ("either", "most"):
            self.assertIs(is_way_paper(CLAIM, way, ("clash", right)), True)
            for value in (right[::-1], list(right), (right, right), right[:2], (("both", 0), ("p", True), ("q", 1)),
                          (("both", False), ("p", 1), ("q", 1)), (), None, "clash", 0, CLAIM):
                self.assertIs(is_way_paper(CLAIM, way, ("clash", value)), False, value)

    def test_clashes_of_four_and_more(self):
        agenda = Agenda(SIX, tuple(row for row in VALUES if row[:4] != (0, 0, 1, 1)))
        clash = (("a", 0), ("b", 0), ("c", 1), ("d", 1))
        for way in WAYS[:3]:
            self.assertEqual(way_paper(agenda, way), ("clash", clash))
            self.assertIs(is_way_paper(agenda, way, ("clash", clash)), True)
            for value in (("rows", clash), ("Clash", clash), ("clash", clash, clash), (clash, "clash"), ["clash", clash],
                          ("rule", clash), (None, clash), ("clash", "clash", clash), (clash,), (PAIR, clash)):
                self.assertIs(is_way_paper(agenda, way, value), False, value)

    def test_no_papers(self):
        for value in ((), ("rule", ()), ("rule", ("rule",)), ["rule"], ("Rule",), "rule", (True,), ("clash",),
                      ("rows",), ("rule", "rule", "rule"), {"rule": 1}, (("rule",),), (None,), (PAIR,), (BOTH, BOTH),
                      ("clash", PAIR)):
            for agenda in (PAIR, CLAIM, EVEN, ORDERS):
                for way in WAYS:
                    self.assertIs(is_way_paper(agenda, way, value), False, value)
        for way in WAYS:
            self.judge_wrong(is_way_paper, CLAIM, way)
            self.judge_wrong(is_way_paper, EVEN, way)


class TablesTest(Calls):
    def test_tables_for_all(self):
        for agenda in FEW[::2] + [PAIR, EVEN, ORDERS, CLAIM]:
            for voters in (1, 2):
                right = tuple(table for table in tables(voters)
                              if is_rule_for(agenda, same_rule(agenda.issues, voters, table)))
                self.assertEqual(repr(self.told(tables_for_all, agenda, voters)), repr(right))
        for agenda in (PAIR, CLAIM, ORDERS, Agenda.free(("a", "b"))):
            right = tuple(table for table in tables(3) if is_rule_for(agenda, same_rule(agenda.issues, 3, table)))
            self.assertEqual(repr(self.told(tables_for_all, agenda, 3)), repr(right))

    def test_blocked_agendas(self):
        # Only the voters and, for a summed agenda, their sum.
        followed = tuple(sorted(Rule.of_voter(("a",), 3, voter)["a"] for voter in range(3)))
        self.assertEqual(tables_for_all(ORDERS, 3), followed)
        self.assertEqual(tables_for_all(EVEN, 3), tuple(sorted([*followed, way_rule(("a",), "sum")["a"]])))
        for agenda in all_agendas(("a", "b", "c")):
            if is_blocked(agenda):
                for rule in [rule for rule in all_rules(agenda.issues, 2) if is_rule_for(agenda, rule)]:
                    self.assertIs(is_same(rule), True)
                self.assertEqual(len(tables_for_all(agenda, 3)), 4 if is_summed(agenda) else 3)

    def test_agendas_with_all_ways_have_all_tables(self):
        found = [agenda for agenda in all_agendas(("a", "b", "c")) if ways(agenda) == WAYS]
        self.assertIn(Agenda.free(("a", "b", "c")), found)
        for agenda in found:
            for voters in (2, 3):
                self.assertEqual(tables_for_all(agenda, voters), tuple(tables(voters)))

    def test_numbers(self):
        for number in (0, 4, 5, -1, True, False, None, "2", (2,), 10 ** 60):
            self.refuse(InvalidNumber, tables_for_all, CLAIM, number, value=number)
        self.refuse_wrong(InvalidNumber, tables_for_all, CLAIM, 2, at=1, right=[1, 2], keeps="value")

    def test_too_many_votes_come_last(self):
        most, more = Agenda(SIX, VALUES[:57] + VALUES[-1:]), Agenda(SIX, VALUES[:58] + VALUES[-1:])
        self.assertEqual(len(self.soon(tables_for_all, most, 3)) >= 3, True)
        for agenda in (more, Agenda.free(SIX)):
            self.refuse(TooMany, tables_for_all, agenda, 3, limit=200000)
            self.refuse(InvalidNumber, tables_for_all, agenda, 4, value=4)
            self.assertEqual(self.soon(tables_for_all, agenda, 1), ((0, 1),))
        self.assertEqual(self.soon(tables_for_all, Agenda.free(SIX), 2), tuple(tables(2)))

    def test_many_rows(self):
        # A link between two issues lets just the tables of growing rules stand.
        agenda = Agenda(SIX, tuple(row for row in VALUES if row[0] <= row[1]))
        found = self.soon(tables_for_all, agenda, 3)
        steps = [(at, at | bit) for at in range(8) for bit in (1, 2, 4)]
        growing = [table for table in tables(3) if all(table[low] <= table[high] for low, high in steps)]
        self.assertEqual(found, tuple(growing))


class WrongTest(Calls):
    def test_no_agenda(self):
        for call, more in ((way_paper, ("both",)), (is_way_paper, ("both", None)), (ways, ()), (tables_for_all, (2,))):
            self.refuse_wrong(InvalidAgenda, call, CLAIM, *more, at=0, right=(PAIR, EVEN, CLAIM))
            self.refuse(InvalidAgenda, call, CLAIM.rows, *[None for _ in more])


if __name__ == "__main__":
    unittest.main()
