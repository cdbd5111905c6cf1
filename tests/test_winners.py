"""Who wins: points [0.11], [0.12], [0.18], [12.1] and [12.2] and stage 12."""

import unittest
from itertools import product

from oneswill.base.agendas import Agenda, contrary
from oneswill.errors import InvalidAgenda, InvalidOperation, InvalidRule, NoRow
from oneswill.link.links import knots, led_to, links
from oneswill.rule.rules import Rule, outcome
from oneswill.rule.same import way_rule
from oneswill.rule.sums import sum_rule
from oneswill.rule.winners import all_heard, does_win, is_loss, loss, ranked_knots, votes_of, winners
from tests.common import BOTH, CLAIM, EVEN, MOST, ORDERS, PAIR, SIX, Calls, all_agendas, all_rules, has, is_rule_for
from tests.common import least, linked, mixed_agendas, small_agendas, subsets

SOME = way_rule(CLAIM.issues, "either")
# Each value 1 forces value 1 for each later issue.
FORCING = Agenda(SIX, tuple((0,) * (6 - many) + (1,) * many for many in range(7)))
# Rules of one to four voters, with tables of every kind.
MIXED = [Rule(1, {"ab": (0, 1)}), BOTH, MOST, SOME, Rule.of_voter(("a", "b"), 3, 1), sum_rule(("a",), 4, (0, 2, 3)),
         Rule(2, {"a": (0, 1, 0, 1), "b": (0, 0, 1, 1), "c": (0, 1, 1, 1)}),
         Rule(3, {"a": (0, 1, 0, 0, 1, 0, 1, 1), "b": (0, 0, 0, 1, 0, 1, 1, 1)}),
         Rule(4, {"a": (0, 0, 1, 0, 1, 1, 0, 1, 0, 1, 1, 1, 0, 0, 1, 1), "b": (0,) * 15 + (1,)})]
# Those among the values of every kind.
RULES = [BOTH, Rule(1, {"zz": (0, 1)})]
# No sets of voters of a rule for two voters.
NO_VOTERS = ((1, 0), (0, 0), (2,), (0, 2), (-1,), (True,), (0, True), (False, 1), [0], [], 0, None, "0", ("0",),
             (0, 1, 2), ((0,),), {0: 1}, (None,), (10 ** 60,), BOTH, (BOTH,))
NO_ANSWERS = (("a", 0), ("p", True), ("p", False), ("p", 2), ("p",), ("p", 0, 0), ["p", 0], "p0", (), None, 0, ("P", 0),
              (0, "p"), {"p": 0}, (("p", 0),), ("p", None), (["p"], 0), ("p", [0]), CLAIM, "p")


def wins(rule, voters, answer):
    """Whether a set of voters wins an answer, told by the outcome when just these voters say so."""
    issue, value = answer
    votes = tuple(tuple(value if voter in voters else 1 - value for _ in rule.issues) for voter in range(rule.voters))
    return rule(votes)[rule.issues.index(issue)] == value


def losses(agenda, rule):
    """All losses, told by the document's words alone."""
    return {(one, other, voters) for one, other in linked(agenda) for voters in subsets(range(rule.voters))
            if wins(rule, voters, one) and not wins(rule, voters, other)}


class WinTest(Calls):
    def test_who_wins(self):
        for rule in MIXED:
            for answer in product(rule.issues, (0, 1)):
                right = [voters for voters in subsets(range(rule.voters)) if wins(rule, voters, answer)]
                self.assertEqual(repr(self.told(winners, rule, answer)), repr(tuple(sorted(right))))
                for voters in subsets(range(rule.voters)):
                    self.assertIs(self.told(does_win, rule, voters, answer), voters in right)

    def test_none_and_all(self):
        for rule in MIXED:
            everyone = tuple(range(rule.voters))
            for answer in product(rule.issues, (0, 1)):
                self.assertIs(does_win(rule, (), answer), False)
                self.assertIs(does_win(rule, everyone, answer), True)

    def test_the_others_do_not_win_the_contrary(self):
        for rule in MIXED:
            for answer in product(rule.issues, (0, 1)):
                for voters in subsets(range(rule.voters)):
                    others = tuple(voter for voter in range(rule.voters) if voter not in voters)
                    self.assertIs(does_win(rule, voters, answer), not does_win(rule, others, contrary(answer)))

    def test_a_larger_set_can_lose(self):
        # [0.18]: two of three voters who are summed.
        rule = sum_rule(("a",), 3, (0, 1, 2))
        self.assertEqual(winners(rule, ("a", 1)), ((0,), (0, 1, 2), (1,), (2,)))

    def test_no_voters(self):
        for value in NO_VOTERS:
            self.refuse(InvalidOperation, does_win, BOTH, value, ("p", 0))
        self.refuse_wrong(InvalidOperation, does_win, Rule(1, {"a": (0, 1)}), (0,), ("a", 0), at=1)
        self.refuse(InvalidOperation, does_win, MOST, (0, 3), ("ab", 0))

    def test_no_answers(self):
        for value in NO_ANSWERS:
            self.refuse(InvalidOperation, does_win, BOTH, (0,), value)
            self.refuse(InvalidOperation, winners, BOTH, value)
        self.refuse_wrong(InvalidOperation, does_win, BOTH, (0,), ("p", 0), at=2)
        self.refuse_wrong(InvalidOperation, winners, BOTH, ("p", 0), at=1)
        self.refuse(InvalidOperation, winners, BOTH, ("ab", 0))

    def test_no_rules(self):
        self.refuse_wrong(InvalidRule, does_win, BOTH, (0,), ("p", 0), at=0, right=RULES)
        self.refuse_wrong(InvalidRule, winners, BOTH, ("p", 0), at=0, right=RULES)
        self.refuse(InvalidOperation, winners, RULES[1], ("p", 0))
        self.refuse_wrong(InvalidRule, all_heard, BOTH, at=0, right=RULES)
        self.refuse(InvalidRule, does_win, None, None, None)
        self.refuse(InvalidRule, winners, None, None)

    def test_who_is_heard(self):
        for rule in MIXED:
            right = sorted({voter for issue in rule for voter in rule.heard(issue)})
            self.assertEqual(repr(self.told(all_heard, rule)), repr(tuple(right)))
        self.assertEqual(all_heard(Rule(3, {"a": (0, 1) * 4, "b": (0,) * 4 + (1,) * 4})), (0, 2))


class LossTest(Calls):
    def test_all_rules_for_two(self):
        for agenda in [PAIR, *list(all_agendas(("a", "b"))), CLAIM, EVEN, ORDERS]:
            for rule in all_rules(agenda.issues, 2):
                found, right = self.told(loss, agenda, rule), losses(agenda, rule)
                # It is one for the agenda just if it has none.
                self.assertIs(found is None, right == set())
                self.assertIs(found is None, is_rule_for(agenda, rule))
                self.assertIs(found is None or (found in right and is_loss(agenda, rule, found)), True)

    def test_rules_for_the_agenda_have_none(self):
        for agenda, rule in ((CLAIM, BOTH), (EVEN, way_rule(EVEN.issues, "sum")),
                             (ORDERS, Rule.of_voter(ORDERS.issues, 4, 2)), (CLAIM, BOTH.spoken((0, 2), 3)),
                             (PAIR, way_rule(PAIR.issues, "most"))):
            self.assertIs(is_rule_for(agenda, rule), True)
            self.assertIsNone(self.told(loss, agenda, rule))

    def test_none_for_three_voters_that_is_no_rule(self):
        # The sets that win are alike for all answers, and so is no triple a loss.
        self.assertIsNone(loss(ORDERS, MOST))
        self.assertIsNone(loss(ORDERS, way_rule(ORDERS.issues, "sum")))

    def test_each_triple(self):
        for agenda, rule in ((CLAIM, SOME), (CLAIM, BOTH), (PAIR, way_rule(PAIR.issues, "both")),
                             (CLAIM, Rule(3, {"both": (0,) * 7 + (1,), "p": MOST["ab"], "q": (0, 1) * 4}))):
            right = losses(agenda, rule)
            for one, other in product(agenda.answers, repeat=2):
                for voters in subsets(range(rule.voters)):
                    self.assertIs(is_loss(agenda, rule, (one, other, voters)), (one, other, voters) in right)

    def test_near_a_loss(self):
        one, other = ("p", 1), ("q", 0)
        self.assertIs(is_loss(CLAIM, SOME, (one, other, (0,))), True)
        for value in ((other, one, (0,)), (one, other, (0, 1)), (one, other, ()), (one, ("q", 1), (0,)),
                      (one, one, (0,)), (one, contrary(one), (0,)), (one, other), (one, other, (0,), (0,)),
                      [one, other, (0,)], (one, other, [0]), (one, other, 0), (one, other, (True,)),
                      (one, other, (False,)), (one, other, (2,)), (one, other, (0, 0)), (list(one), other, (0,)),
                      (one, list(other), (0,)), (("p", True), other, (0,)), (one, ("q", False), (0,)),
                      (("r", 1), other, (0,)), (one, ("r", 0), (0,)), (one, other, None), (None, other, (0,)),
                      (one, None, (0,)), (), None, "p", 0, {one: other}, CLAIM, (one, other, (0, 2))):
            self.assertIs(is_loss(CLAIM, SOME, value), False, value)
            self.refuse(InvalidOperation, votes_of, CLAIM, SOME, value)
        self.judge_wrong(is_loss, CLAIM, SOME)
        self.refuse_wrong(InvalidOperation, votes_of, CLAIM, SOME, None, at=2)

    def test_no_loss_of_another_rule(self):
        triple = (("p", 1), ("q", 0), (0,))
        self.assertIs(is_loss(CLAIM, BOTH, triple), False)
        self.refuse(InvalidOperation, votes_of, CLAIM, BOTH, triple)


class VotesTest(Calls):
    def check(self, agenda, rule, triple):
        """The votes are as [12.2] tells for one of the clashes that show the link."""
        votes, (one, other, voters) = self.told(votes_of, agenda, rule, triple), triple
        self.assertEqual((type(votes), len(votes)), (tuple, rule.voters))
        self.assertIs(all(row in agenda for row in votes), True)
        theirs = {row for voter, row in enumerate(votes) if voter in voters}
        others = {row for voter, row in enumerate(votes) if voter not in voters}
        self.assertEqual((len(theirs), len(others)), (1, 1))
        shown = [clash for clash in least(agenda) if one in clash and contrary(other) in clash]
        self.assertTrue(any(
            has(agenda, *theirs, [answer for answer in clash if answer != contrary(other)])
            and has(agenda, *others, [answer for answer in clash if answer != one])
            and has(agenda, rule(votes), clash) for clash in shown))
        self.refuse(NoRow, outcome, agenda, rule, votes, votes=votes)

    def test_the_outcome_is_no_row(self):
        found = 0
        for agenda in (PAIR, CLAIM, EVEN, ORDERS, *list(all_agendas(("a", "b", "c")))[::17]):
            for rule in all_rules(agenda.issues, 2)[::5]:
                for triple in losses(agenda, rule):
                    self.check(agenda, rule, triple)
                    found += 1
        self.assertGreater(found, 800)

    def test_more_voters(self):
        for voters in (3, 4):
            table = (0, 1) * (2 ** voters // 2)
            for agenda in (CLAIM, EVEN, FORCING):
                tables = {issue: table for issue in agenda.issues}
                tables[agenda.issues[1]] = (0,) * (2 ** voters - 1) + (1,)
                rule = Rule(voters, tables)
                self.assertIs(loss(agenda, rule) is None, losses(agenda, rule) == set())
                for triple in losses(agenda, rule):
                    self.check(agenda, rule, triple)

    def test_several_clashes_show_a_link(self):
        agenda = Agenda(SIX, tuple(row for row in product((0, 1), repeat=6) if sum(row) in (1, 5)))
        rule = Rule(2, {issue: (0, 0, 0, 1) if issue < "d" else (0, 0, 1, 1) for issue in SIX})
        self.assertGreater(len(losses(agenda, rule)), 0)
        for triple in losses(agenda, rule):
            self.check(agenda, rule, triple)

    def test_soon(self):
        agenda = Agenda(SIX, tuple(row for row in product((0, 1), repeat=6) if sum(row) % 2 == 0))
        self.assertIsNone(self.soon(loss, agenda, sum_rule(SIX, 4, (0, 1, 2))))
        rule = Rule(4, {issue: (0,) * 15 + (1,) for issue in SIX})
        self.assertIs(is_loss(agenda, rule, self.soon(loss, agenda, rule)), True)


class RankedKnotsTest(Calls):
    def check(self, agenda):
        ranked = self.told(ranked_knots, agenda)
        self.assertEqual(sorted(ranked), list(knots(agenda)))
        for at, knot in enumerate(ranked):
            # Nothing that comes later leads to it, and it is the first one of those to which nothing left leads.
            left = ranked[at:]
            led = {other: led_to(agenda, other[0]) for other in left}
            free = [one for one in left if not any(one != other and one[0] in led[other] for other in left)]
            self.assertEqual(knot, min(free))

    def test_the_order(self):
        for agenda in small_agendas() + mixed_agendas() + [FORCING, PAIR + CLAIM, Agenda.free(SIX)]:
            self.check(agenda)

    def test_several_that_do_not_lead_to_one_another(self):
        ones, zeros = tuple((issue, 1) for issue in CLAIM.issues), tuple((issue, 0) for issue in CLAIM.issues)
        self.assertEqual(ranked_knots(CLAIM), (ones, zeros))
        left, right = knots(PAIR)
        self.assertEqual(ranked_knots(PAIR + CLAIM), (left, right, ones, zeros))
        self.assertEqual(ranked_knots(PAIR.renamed({"a": "x", "b": "y"}) + CLAIM),
                         (ones, zeros, (("x", 0), ("y", 1)), (("x", 1), ("y", 0))))
        self.assertEqual(ranked_knots(Agenda.free(("a", "b"))), tuple((answer,) for answer in product("ab", (0, 1))))
        # Those with value 1 one behind another, and ahead of the last one those with value 0 the other way round.
        right = [(issue, 1) for issue in SIX[:-1]] + [(issue, 0) for issue in SIX[::-1]] + [("f", 1)]
        self.assertEqual(ranked_knots(FORCING), tuple((answer,) for answer in right))
        self.assertEqual(ranked_knots(ORDERS), (ORDERS.answers,))

    def test_a_knot_is_won_by_the_same_sets(self):
        for agenda, way in ((CLAIM, "both"), (EVEN, "sum"), (PAIR, "most")):
            rule = way_rule(agenda.issues, way)
            for knot in ranked_knots(agenda):
                self.assertEqual(len({winners(rule, answer) for answer in knot}), 1)

    def test_winners_grow_along_links(self):
        # [0.12], for all rules for two voters.
        for agenda in (PAIR, CLAIM, EVEN, Agenda.free(("a", "b"))):
            for rule in [rule for rule in all_rules(agenda.issues, 2) if is_rule_for(agenda, rule)]:
                for one, other in links(agenda):
                    self.assertLessEqual(set(winners(rule, one)), set(winners(rule, other)))


class StatementsTest(Calls):
    def test_more_voters_win_along_links_too(self):
        # [0.12] and [0.19], for rules for three voters that are put together of rules for two.
        rules = [rule for rule in all_rules(CLAIM.issues, 2) if is_rule_for(CLAIM, rule)]
        for outer, one, other in product(rules, repeat=3):
            rule = outer.put_in((one.spoken((0, 1), 3), other.spoken((1, 2), 3)))
            self.assertIs(is_rule_for(CLAIM, rule), True)
            self.assertIsNone(loss(CLAIM, rule))
            for first, second in links(CLAIM):
                self.assertLessEqual(set(winners(rule, first)), set(winners(rule, second)))

    def test_a_rule_for_three_that_is_not_put_together(self):
        # [0.18]: where each rule for two has tables that grow with their values, so have those put together of them.
        rule = sum_rule(PAIR.issues, 3, (0, 1, 2))
        self.assertIs(is_rule_for(PAIR, rule), True)
        for two in [rule for rule in all_rules(PAIR.issues, 2) if is_rule_for(PAIR, rule)]:
            for answer in PAIR.answers:
                self.assertIs(grows(two, answer), True)
        self.assertIs(grows(rule, ("a", 1)), False)


def grows(rule, answer):
    """Whether each set of voters that contains one that wins an answer wins it."""
    sets = winners(rule, answer)
    return all(other in sets for one in sets for other in subsets(range(rule.voters)) if set(one) <= set(other))


class WrongTest(Calls):
    def test_no_agenda(self):
        for call, more in ((loss, (BOTH,)), (is_loss, (BOTH, None)), (votes_of, (BOTH, None)), (ranked_knots, ())):
            self.refuse_wrong(InvalidAgenda, call, CLAIM, *more, at=0, right=(PAIR, EVEN, CLAIM))
            self.refuse(InvalidAgenda, call, CLAIM.rows, *[None for _ in more])

    def test_no_rule_with_these_issues(self):
        for call, more in ((loss, ()), (is_loss, (None,)), (votes_of, (None,))):
            self.refuse_wrong(InvalidRule, call, CLAIM, BOTH, *more, at=1, right=[BOTH])
            self.refuse(InvalidRule, call, CLAIM, MOST, *more)


if __name__ == "__main__":
    unittest.main()
