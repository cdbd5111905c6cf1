"""Agendas that change: points [0.18], [0.19] and [13.1] and stage 13."""

import unittest
from itertools import combinations, product

from oneswill.base.agendas import Agenda
from oneswill.errors import InvalidAgenda, InvalidNumber, InvalidOperation, InvalidRule, TooMany
from oneswill.more.changed import MAX_SETS, beside, cut_rules, issues_to_drop, rows_to_add, rows_to_take, side_parts
from oneswill.more.orders import orders_agenda
from oneswill.rule.rules import Rule, is_rule
from oneswill.rule.same import way_rule
from oneswill.rule.twos import closed_sets, rules_for_two, set_of
from oneswill.rule.verdict import another, has_another
from tests.common import BOTH, CLAIM, EVEN, MOST, ORDERS, PAIR, SIX, Calls, all_agendas, all_rules, is_rule_for, least
from tests.common import mixed_agendas, small_agendas, subsets

VALUES = tuple(product((0, 1), repeat=6))
BLOCKED = [agenda for agenda in all_agendas(("a", "b", "c")) if not has_another(agenda)]
FOUR = orders_agenda(("a", "b", "c", "d"))
# All rows but those with just one answer unlike all others.
UNLIKE = Agenda(SIX, tuple(row for row in VALUES if sum(row) not in (0, 2, 4)))


def least_of(sets):
    """Those of the sets in which no smaller one lies, told by the document's words alone."""
    return tuple(sorted(one for one in sets if not any(set(other) < set(one) for other in sets)))


def rows_of(issues, rows):
    """The agenda with these rows, or None if there is none."""
    if not rows or not all(len(set(column)) == 2 for column in zip(*rows)):
        return None
    return Agenda(issues, tuple(sorted(rows)))


def adding(agenda, most):
    """What rows_to_add returns, told by the document's words alone."""
    new = [values for values in product((0, 1), repeat=len(agenda.issues)) if values not in agenda.rows]
    sets = [chosen for many in range(most + 1) for chosen in combinations(new, many)]
    return least_of([chosen for chosen in sets if has_another(rows_of(agenda.issues, agenda.rows + chosen))])


def taking(agenda, most):
    """What rows_to_take returns, told by the document's words alone."""
    found = []
    for chosen in [chosen for many in range(most + 1) for chosen in combinations(agenda.rows, many)]:
        left = rows_of(agenda.issues, [row for row in agenda.rows if row not in chosen])
        if left is not None and has_another(left):
            found.append(chosen)
    return least_of(found)


def dropping(agenda):
    """What issues_to_drop returns, told by the document's words alone."""
    found = []
    for dropped in subsets(agenda.issues)[:-1]:
        places = [at for at, issue in enumerate(agenda.issues) if issue not in dropped]
        rows = {tuple(row[at] for at in places) for row in agenda.rows}
        if has_another(Agenda(tuple(agenda.issues[at] for at in places), tuple(sorted(rows)))):
            found.append(dropped)
    return least_of(found)


def joined(agenda):
    """The side parts, told by the document's words alone."""
    parts = {issue: {issue} for issue in agenda.issues}
    for _ in agenda.issues:
        for clash in least(agenda):
            for one, other in product(clash, repeat=2):
                parts[one[0]] |= parts[other[0]]
    return tuple(sorted({tuple(sorted(part)) for part in parts.values()}))


class RowsTest(Calls):
    def test_rows_to_add(self):
        for agenda in BLOCKED + small_agendas()[::9]:
            if len(agenda.issues) <= 3:
                for most in range(4):
                    self.assertEqual(repr(self.told(rows_to_add, agenda, most)), repr(adding(agenda, most)))

    def test_rows_to_take(self):
        for agenda in BLOCKED + small_agendas()[::9]:
            if len(agenda.issues) <= 3:
                for most in range(4):
                    self.assertEqual(repr(self.told(rows_to_take, agenda, most)), repr(taking(agenda, most)))

    def test_more_issues(self):
        for agenda in [agenda for agenda in mixed_agendas() if 4 <= len(agenda.issues)] + [FOUR, UNLIKE]:
            self.assertEqual(self.told(rows_to_add, agenda, 1), adding(agenda, 1))
            self.assertEqual(self.told(rows_to_take, agenda, 1), taking(agenda, 1))
        for agenda in [agenda for agenda in mixed_agendas() if len(agenda.issues) == 4 and len(agenda) in (8, 14)]:
            self.assertEqual(rows_to_add(agenda, 3), adding(agenda, 3))
            self.assertEqual(rows_to_take(agenda, 3), taking(agenda, 3))

    def test_another_rule_already(self):
        for agenda in (PAIR, CLAIM, EVEN, Agenda.free(SIX), Agenda.free(("a",))):
            for most in (0, 1):
                self.assertEqual(repr(rows_to_add(agenda, most)), "((),)")
                self.assertEqual(repr(rows_to_take(agenda, most)), "((),)")

    def test_none_that_does(self):
        for call in (rows_to_add, rows_to_take):
            self.assertEqual(repr(call(ORDERS, 0)), "()")
            self.assertEqual(call(FOUR, 0), ())
        self.assertEqual(rows_to_add(FOUR, 1), ())
        self.assertEqual(rows_to_add(UNLIKE, 1), ())

    def test_larger_sets_are_left_out(self):
        found = rows_to_add(ORDERS, 3)
        self.assertEqual(found[:1], (((0, 1, 0),),))
        self.assertEqual(found, (((0, 1, 0),), ((1, 0, 1),)))
        for agenda in BLOCKED:
            for call in (rows_to_add, rows_to_take):
                sets = call(agenda, 3)
                self.assertFalse(any(set(one) < set(other) for one in sets for other in sets))

    def test_two_rows(self):
        # Without one of them there is no agenda.
        for agenda in (PAIR, Agenda.free(("a",)), Agenda(SIX, ((0,) * 6, (1,) * 6))):
            self.assertEqual(rows_to_take(agenda, 3), ((),))

    def test_rows_that_cannot_be_taken(self):
        # Without the only row with value 1 for an issue there is no agenda.
        agenda = [agenda for agenda in BLOCKED if any(sum(column) == 1 for column in zip(*agenda.rows))][0]
        for chosen in rows_to_take(agenda, 3):
            self.assertIsNotNone(rows_of(agenda.issues, [row for row in agenda.rows if row not in chosen]))

    def test_numbers(self):
        for call in (rows_to_add, rows_to_take):
            for number in (-1, 4, 5, True, False, None, "1", (1,), [1], 10 ** 60, -(10 ** 60)):
                self.refuse(InvalidNumber, call, ORDERS, number, value=number)
            self.refuse_wrong(InvalidNumber, call, CLAIM, 1, at=1, right=[0, 1, 2, 3], keeps="value")

    def test_too_many_sets(self):
        self.assertEqual(repr(MAX_SETS), "500")
        # So many items of which there are just few enough sets of at most so many, and one item more.
        for most, many in ((2, 31), (3, 14)):
            for more in (0, 1):
                rows = VALUES[:1] + VALUES[-1:] + VALUES[1:many + more - 1]
                few = Agenda(SIX, tuple(sorted(rows)))
                others = Agenda(SIX, tuple(sorted(set(VALUES) - set(VALUES[1:many + more + 1]))))
                self.assertEqual((len(few), len(others)), (many + more, 64 - many - more))
                for call, agenda in ((rows_to_take, few), (rows_to_add, others)):
                    if more:
                        self.refuse(TooMany, call, agenda, most, limit=500)
                        self.refuse(InvalidNumber, call, agenda, 4, value=4)
                        self.assertIsInstance(self.soon(call, agenda, most - 1), tuple)
                    else:
                        self.assertIsInstance(self.soon(call, agenda, most), tuple)

    def test_too_many_sets_of_an_agenda_with_another_rule(self):
        self.refuse(TooMany, rows_to_take, Agenda.free(SIX), 2, limit=500)
        self.assertEqual(rows_to_add(Agenda.free(SIX), 3), ((),))
        self.assertIs(has_another(PAIR + Agenda.free(("c", "d", "e", "f"))), True)
        self.refuse(TooMany, rows_to_add, PAIR + Agenda.free(("c", "d", "e", "f")), 2, limit=500)

    def test_soon(self):
        for agenda in (FOUR, UNLIKE, Agenda(SIX, VALUES[1:-1])):
            for call in (rows_to_add, rows_to_take):
                self.soon(call, agenda, 1)
        self.assertEqual(self.soon(rows_to_add, Agenda(SIX, VALUES[1:-1]), 3), ((VALUES[0],), (VALUES[-1],)))


class DropTest(Calls):
    def test_issues_to_drop(self):
        for agenda in BLOCKED + small_agendas()[::9] + mixed_agendas() + [FOUR, UNLIKE]:
            self.assertEqual(repr(self.told(issues_to_drop, agenda)), repr(dropping(agenda)))

    def test_none_needs_to_be_dropped(self):
        for agenda in (PAIR, CLAIM, EVEN, Agenda.free(("a",)), Agenda.free(SIX)):
            self.assertEqual(repr(issues_to_drop(agenda)), "((),)")

    def test_sets_of_several_issues(self):
        self.assertEqual(issues_to_drop(ORDERS), (("ab",), ("ac",), ("bc",)))
        # Without two comparisons that have a thing in common no three things go round.
        right = tuple(pair for pair in combinations(FOUR.issues, 2) if set(pair[0]) & set(pair[1]))
        self.assertEqual(self.soon(issues_to_drop, FOUR), right)

    def test_not_all(self):
        for agenda in small_agendas() + mixed_agendas():
            self.assertNotIn(agenda.issues, self.soon(issues_to_drop, agenda))

    def test_another_rule_can_be_lost(self):
        # [0.18]: an agenda with an issue dropped need not have another rule, though the first one has.
        whole = Agenda(("ab", "ac", "bc", "z"), tuple((*row, 0) for row in ORDERS.rows) + ((1, 1, 1, 1),))
        self.assertIs(has_another(Agenda(whole.issues, tuple(sorted(whole.rows)))), True)
        self.assertIs(has_another(Agenda(whole.issues, tuple(sorted(whole.rows))).only(ORDERS.issues)), False)


class SidePartsTest(Calls):
    def test_side_parts(self):
        for agenda in small_agendas() + mixed_agendas() + [FOUR, PAIR + CLAIM, PAIR + CLAIM + Agenda.free(("x",))]:
            self.assertEqual(repr(self.told(side_parts, agenda)), repr(joined(agenda)))

    def test_the_agenda_is_that_of_its_side_parts(self):
        for agenda in small_agendas()[::3] + [PAIR + CLAIM, PAIR + CLAIM + Agenda.free(("x",))]:
            parts = [agenda.only(part) for part in side_parts(agenda)]
            whole = parts[0]
            for part in parts[1:]:
                whole = whole + part
            self.assertEqual(whole, agenda)
            if len(parts) > 1:
                self.assertIs(has_another(agenda), True)

    def test_one_issue_each(self):
        self.assertEqual(side_parts(Agenda.free(SIX)), tuple((issue,) for issue in SIX))
        self.assertEqual(side_parts(Agenda.free(("a",))), (("a",),))

    def test_joined_one_behind_another(self):
        # a forces c, c forces b; d and f are alike, e is apart.
        rows = tuple(row for row in VALUES if row[0] <= row[2] <= row[1] and row[3] == row[5])
        self.assertEqual(side_parts(Agenda(SIX, rows)), (("a", "b", "c"), ("d", "f"), ("e",)))
        rows = tuple(row for row in VALUES if row[0] == row[5] and row[1] == row[4] and row[4] <= row[5])
        self.assertEqual(side_parts(Agenda(SIX, rows)), (("a", "b", "e", "f"), ("c",), ("d",)))

    def test_rules_are_told_by_the_side_parts(self):
        agenda = PAIR + Agenda.free(("c",))
        for rule in all_rules(agenda.issues, 2):
            right = all(is_rule_for(agenda.only(part), rule.only(part)) for part in side_parts(agenda))
            self.assertIs(is_rule_for(agenda, rule), right)


class BesideTest(Calls):
    def test_both_tables(self):
        first, second = Rule(3, {"b": (0, 1) * 4, "a": (0, 0, 0, 1) * 2}), Rule(3, {"c": (0, 0, 1, 1) * 2})
        for one, other in ((first, second), (second, first)):
            rule = self.told(beside, one, other)
            self.assertEqual((rule.voters, rule.issues), (3, ("a", "b", "c")))
            self.assertEqual([rule[issue] for issue in rule], [first["a"], first["b"], second["c"]])

    def test_rules_for_agendas_beside_one_another(self):
        # [0.19]: the first voter on the issues of the one, the second one on those of the other.
        for one, other in ((PAIR, ORDERS), (ORDERS, EVEN), (CLAIM, PAIR)):
            rule = beside(Rule.of_voter(one.issues, 2, 0), Rule.of_voter(other.issues, 2, 1))
            self.assertIs(is_rule(one + other, rule), True)
            self.assertIsNone(rule.followed())
        self.assertIs(is_rule(CLAIM + PAIR, beside(BOTH, another(PAIR, 2))), True)

    def test_six_issues_and_more(self):
        three = Rule.of_voter(("d", "e", "f"), 2, 0)
        self.assertEqual(len(beside(Rule.of_voter(("a", "b", "c"), 2, 1), three)), 6)
        self.refuse(InvalidOperation, beside, three, Rule.of_voter(("a", "b", "c", "g"), 2, 1))
        self.refuse(InvalidOperation, beside, Rule.of_voter(SIX, 2, 0), Rule.of_voter(("g",), 2, 0))

    def test_common_issues(self):
        self.refuse(InvalidOperation, beside, BOTH, BOTH)
        self.refuse(InvalidOperation, beside, BOTH, Rule.of_voter(("a", "q"), 2, 1))

    def test_unlike_numbers_of_voters(self):
        self.refuse(InvalidOperation, beside, BOTH, MOST)
        for one, other in product((1, 2, 3, 4), repeat=2):
            rules = Rule.of_voter(("a",), one, 0), Rule.of_voter(("b",), other, 0)
            if one != other:
                self.refuse(InvalidOperation, beside, *rules)
            else:
                self.assertEqual(beside(*rules), Rule.of_voter(("a", "b"), one, 0))

    def test_no_rules(self):
        right = [BOTH, Rule(1, {"zz": (0, 1)})]
        self.refuse_wrong(InvalidRule, beside, MOST, MOST, at=0, right=right)
        self.refuse_wrong(InvalidRule, beside, MOST, MOST, at=1, right=right)
        self.refuse(InvalidRule, beside, None, None)
        self.refuse(InvalidRule, beside, BOTH, None)


class CutRulesTest(Calls):
    def test_cut_rules(self):
        for agenda in (PAIR, CLAIM, EVEN, ORDERS, *BLOCKED[::5], *small_agendas()[::31]):
            if len(agenda.issues) <= 3:
                cut = [rule for rule in all_rules(agenda.issues, 2) if is_rule_for(agenda, rule)]
                for issues in subsets(agenda.issues)[1:]:
                    self.check(agenda, issues, [rule.only(issues) for rule in cut])

    def check(self, agenda, issues, cut):
        small = agenda.only(issues)
        # [0.19]: each rule, cut to some issues, is one for the agenda of these.
        self.assertTrue(all(is_rule_for(small, rule) for rule in cut))
        right = [set_of(small, rule) for rule in rules_for_two(small) if rule not in cut]
        self.assertEqual(repr(self.told(cut_rules, agenda, issues)), repr(tuple(sorted(right))))

    def test_all_issues(self):
        for agenda in small_agendas()[::5] + [Agenda.free(SIX[:4])]:
            self.assertEqual(cut_rules(agenda, agenda.issues), ())

    def test_six_issues(self):
        self.assertEqual(self.soon(cut_rules, Agenda.free(SIX), SIX[:5]), ())
        found = self.soon(cut_rules, FOUR, ("ab", "cd"))
        self.assertEqual(len(found), len(closed_sets(FOUR.only(("ab", "cd")))) - 2)
        self.assertEqual(len(self.soon(cut_rules, Agenda(SIX, VALUES[1:-1]), SIX[1:])), 1024 - 2)

    def test_no_issues(self):
        for issues in ((), ("q", "p"), ("p", "p"), ["p"], ("a",), "p", ("p", "z"), None, 0, {"p": 1}, ("p", 1), CLAIM,
                       BOTH):
            self.refuse(InvalidOperation, cut_rules, CLAIM, issues)
        self.refuse_wrong(InvalidOperation, cut_rules, CLAIM, ("p",), at=1)


class WrongTest(Calls):
    def test_no_agenda(self):
        for call, more in ((rows_to_add, (1,)), (rows_to_take, (1,)), (issues_to_drop, ()), (side_parts, ()),
                           (cut_rules, (("p",),))):
            self.refuse_wrong(InvalidAgenda, call, CLAIM, *more, at=0, right=(PAIR, EVEN, CLAIM))
            self.refuse(InvalidAgenda, call, CLAIM.rows, *[None for _ in more])

    def test_an_agenda_ahead_of_a_wrong_number(self):
        self.refuse(InvalidAgenda, rows_to_add, way_rule(("a",), "both"), 9)


if __name__ == "__main__":
    unittest.main()
