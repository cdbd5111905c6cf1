"""Which rules are rules for an agenda: points [0.2] to [0.5], [0.10], [1.3] and the functions of stage 6."""

import unittest
from itertools import product

from oneswill.base.agendas import Agenda
from oneswill.errors import InvalidAgenda, InvalidOperation, InvalidRule, NoRow, TooMany
from oneswill.rule.rules import Rule, breach, is_breach, is_rule, outcome
from tests.common import BOTH, CLAIM, EVEN, MOST, ORDERS, PAIR, SIX, Calls, all_agendas, all_rules, deep, is_rule_for
from tests.common import outcome_of, wrong_values

VALUES = tuple(product((0, 1), repeat=6))
SUM = Rule(3, {issue: (0, 1, 1, 0, 1, 0, 0, 1) for issue in EVEN.issues})
CYCLE = ((1, 1, 1), (0, 0, 1), (1, 0, 0))


def with_rows(many):
    """An agenda of six issues with so many rows, both ends among them."""
    return Agenda(SIX, (*VALUES[:many - 1], VALUES[-1]))


class JudgedTest(Calls):
    def check(self, agenda, rule):
        right = is_rule_for(agenda, rule)
        self.assertIs(self.told(is_rule, agenda, rule), right)
        found = self.told(breach, agenda, rule)
        if right:
            self.assertIsNone(found)
        else:
            self.assertTrue(len(found) == rule.voters and all(row in agenda.rows for row in found), found)
            self.assertNotIn(outcome_of(rule, found), agenda.rows)
            self.assertIs(is_breach(agenda, rule, found), True)

    def test_all_rules_for_two_voters(self):
        for issues in (("b",), ("a", "b")):
            for agenda in all_agendas(issues):
                for rule in all_rules(issues, 2):
                    self.check(agenda, rule)
        for agenda in (CLAIM, EVEN, ORDERS):
            for rule in all_rules(agenda.issues, 2):
                self.check(agenda, rule)

    def test_rules_for_other_numbers_of_voters(self):
        for agenda in (PAIR, Agenda.free(("a", "b")), Agenda(("a", "b"), ((0, 0), (0, 1), (1, 1)))):
            for rule in all_rules(("a", "b"), 3)[::37] + all_rules(("a", "b"), 1):
                self.check(agenda, rule)
        for agenda in (CLAIM, EVEN, ORDERS):
            for voters in range(1, 5):
                self.check(agenda, Rule.of_voter(agenda.issues, voters, voters - 1))
        self.check(EVEN, SUM)
        self.check(ORDERS, MOST)
        self.check(CLAIM, BOTH.spoken((1, 3), 4))
        self.check(CLAIM, BOTH.put_in((BOTH.spoken((0, 1), 4), BOTH.spoken((2, 3), 4))))
        self.check(CLAIM, BOTH.turned(("p",)).spoken((3, 0), 4))

    def test_it_leaves_agenda_and_rule(self):
        before = deep((ORDERS, MOST))
        votes = [list(row) for row in breach(ORDERS, MOST)]
        votes[0][0] = 9
        self.assertEqual(deep((ORDERS, MOST)), before)
        self.assertIs(is_breach(ORDERS, MOST, breach(ORDERS, MOST)), True)

    def test_values_that_are_no_rules_for_it(self):
        self.judge_wrong(is_rule, PAIR)
        self.judge_wrong(is_rule, CLAIM, right=[BOTH])
        for value in (MOST, Rule.of_voter(("a", "c"), 2, 0), Rule.of_voter(("a",), 2, 0),
                      Rule.of_voter(EVEN.issues, 2, 0)):
            self.assertIs(is_rule(PAIR, value), False)


class BreachesTest(Calls):
    def test_just_the_breaches(self):
        for rule in all_rules(CLAIM.issues, 2)[::5]:
            for votes in product(product((0, 1), repeat=3), repeat=2):
                right = all(row in CLAIM.rows for row in votes) and outcome_of(rule, votes) not in CLAIM.rows
                self.assertIs(is_breach(CLAIM, rule, votes), right)

    def test_the_outcome_of_votes_that_are_rows(self):
        for votes in product(ORDERS.rows, repeat=3):
            self.assertIs(is_breach(ORDERS, MOST, votes), outcome_of(MOST, votes) not in ORDERS.rows)
            if is_breach(ORDERS, MOST, votes):
                self.refuse(NoRow, outcome, ORDERS, MOST, votes, votes=votes)
            else:
                self.assertEqual(repr(outcome(ORDERS, MOST, votes)), repr(outcome_of(MOST, votes)))

    def test_no_votes(self):
        rows = [list(row) for row in CYCLE]
        for value in (CYCLE[:2], CYCLE + CYCLE[:1], (), list(CYCLE), tuple(rows), (CYCLE[0], CYCLE[1], (1, 0)),
                      (CYCLE[0], CYCLE[1], (1, 0, 0, 0)), (CYCLE[0], CYCLE[1], (1, 0, 1)),
                      (CYCLE[0], CYCLE[1], (0, 1, 0)),
                      (CYCLE[0], CYCLE[1], (True, 0, 0)), (CYCLE[0], (False, 0, 1), CYCLE[2]),
                      (CYCLE[0], CYCLE[1], None),
                      (CYCLE[0], CYCLE[1], "100"), None, 0, "", {}, dict.fromkeys(CYCLE), ORDERS, MOST):
            self.assertIs(is_breach(ORDERS, MOST, value), False, value)
            self.refuse(InvalidOperation, outcome, ORDERS, MOST, value)
        self.judge_wrong(is_breach, ORDERS, MOST)
        self.refuse_wrong(InvalidOperation, outcome, ORDERS, MOST, CYCLE, at=2)

    def test_one_voter(self):
        rule = Rule.of_voter(PAIR.issues, 1, 0)
        self.assertEqual(outcome(PAIR, rule, ((0, 1),)), (0, 1))
        self.assertIs(is_breach(PAIR, rule, ((0, 1),)), False)
        self.refuse(InvalidOperation, outcome, PAIR, rule, ((0, 0),))
        self.refuse(InvalidOperation, outcome, PAIR, rule, (0, 1))


class WrongTest(Calls):
    def test_no_agenda(self):
        for call, more in ((is_rule, (BOTH,)), (breach, (BOTH,)), (is_breach, (BOTH, ())), (outcome, (BOTH, ()))):
            self.refuse_wrong(InvalidAgenda, call, CLAIM, *more, at=0, right=(PAIR, EVEN, CLAIM))
            self.refuse(InvalidAgenda, call, BOTH, *more)
            # It is told ahead of a wrong rule.
            self.refuse(InvalidAgenda, call, None, *[None for _ in more])

    def test_no_rule(self):
        for call, more in ((breach, ()), (is_breach, (None,)), (outcome, (None,))):
            self.refuse_wrong(InvalidRule, call, CLAIM, BOTH, *more, at=1, right=[BOTH])
            for rule in (MOST, BOTH.only(("p", "q")), BOTH.renamed({"p": "r"}), CLAIM, {"both": (0, 1)}):
                self.refuse(InvalidRule, call, CLAIM, rule, *more)


class TooManyTest(Calls):
    def rule(self, voters):
        return Rule.of_voter(SIX, voters, 0)

    def test_too_many_votes(self):
        for many, voters in ((59, 3), (64, 3), (22, 4), (64, 4)):
            agenda, rule = with_rows(many), self.rule(voters)
            self.assertGreater(many ** voters, 200000)
            self.refuse(TooMany, breach, agenda, rule, limit=200000)
            self.refuse(TooMany, is_rule, agenda, rule, limit=200000)
            self.refuse(TooMany, is_rule, agenda,
                        Rule(voters, {issue: (0,) * (2 ** voters - 1) + (1,) for issue in SIX}))

    def test_not_too_many_votes(self):
        for many, voters in ((58, 3), (21, 4), (64, 2), (64, 1)):
            self.assertLessEqual(many ** voters, 200000)
            agenda = with_rows(many)
            self.assertIsNone(self.soon(breach, agenda, self.rule(voters)))
            self.assertIs(self.soon(is_rule, agenda, self.rule(voters)), True)

    def test_rules_that_hear_all(self):
        for many, voters in ((58, 3), (21, 4)):
            agenda = with_rows(many)
            middle = range(2 ** voters - 2)
            rule = Rule(voters,
                        {issue: (0, *[(3 * k + at + k // 3) % 2 for k in middle], 1) for at, issue in enumerate(SIX)})
            found = self.soon(breach, agenda, rule)
            self.assertIs(is_breach(agenda, rule, found), True)
            self.assertIs(self.soon(is_rule, agenda, rule), False)
            free = Agenda(SIX[:4], tuple(product((0, 1), repeat=4)))
            self.assertIs(self.soon(is_rule, free, rule.only(SIX[:4])), True)

    def test_the_limit_is_the_power_itself(self):
        # 2 issues have 4 rows at most, so no number of voters has too many votes.
        self.assertIsNone(breach(Agenda.free(("a", "b")), Rule.of_voter(("a", "b"), 4, 1)))

    def test_it_comes_last(self):
        agenda, rule = Agenda.free(SIX), self.rule(4)
        self.refuse(InvalidAgenda, breach, None, rule)
        self.refuse(InvalidRule, breach, agenda, rule.only(SIX[:5]))
        self.assertIs(is_rule(agenda, rule.only(SIX[:5])), False)
        for value in wrong_values():
            self.assertIs(is_rule(agenda, value), False)

    def test_votes_alone_are_never_too_many(self):
        agenda = Agenda.free(SIX)
        self.assertIs(self.soon(is_breach, agenda, self.rule(4), VALUES[:4]), False)
        self.assertEqual(self.soon(outcome, agenda, self.rule(4), VALUES[:4]), VALUES[0])
        few = with_rows(40)
        rule = Rule(4, {issue: (0,) + (1,) * 15 for issue in SIX})
        # The rule says 1 where any voter does, so it joins the bits: 1, 2, 4 and 32 make 39, the first one left out.
        votes = (VALUES[1], VALUES[2], VALUES[4], VALUES[32])
        self.assertEqual(outcome(few, rule, VALUES[:4]), VALUES[3])
        self.assertIs(is_breach(few, rule, VALUES[:4]), False)
        self.assertIs(is_breach(few, rule, votes), True)
        self.refuse(NoRow, outcome, few, rule, votes, votes=votes)


if __name__ == "__main__":
    unittest.main()
