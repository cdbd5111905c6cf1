"""All rules for two voters: points [0.12], [0.13], [0.18], [0.19] and [7.1] and stage 7."""

import unittest
from itertools import product
from types import GeneratorType

from oneswill.base.agendas import Agenda
from oneswill.errors import InvalidAgenda, InvalidOperation, InvalidRule, NoRow
from oneswill.link.links import is_blocked, led_to
from oneswill.rule.rules import Rule, breach, is_breach
from oneswill.rule.twos import closed_sets, is_closed, least_closed, rule_of, rules_for_two, set_of
from tests.common import BOTH, CLAIM, EVEN, MOST, ORDERS, PAIR, SIX, Calls, all_agendas, all_rules, deep, is_rule_for
from tests.common import linked, mixed_agendas, small_agendas, subsets

# No sets of answers of PAIR.
NO_SETS = ((("b", 0), ("a", 0)), (("a", 0), ("a", 0)), (("c", 0),), (("a", 0), ("c", 1)), (("a", True),), (("a", 2),),
           (("a", 0), ("b", False)), [("a", 0)], [], ("a", 0), ("a",), (["a", 0],), "a", None, 0, {}, {("a", 0): 1},
           ((),), (("a", 0), None), (("a", 0), "b"), (("a", 0, 0),), ((("a", 0),),), (("a", [0]),), PAIR, BOTH)
FIRST, SECOND = Rule.of_voter(CLAIM.issues, 2, 0), Rule.of_voter(CLAIM.issues, 2, 1)
SOME = [PAIR, CLAIM, EVEN, ORDERS, *list(all_agendas(("a", "b"))), *list(all_agendas(("a", "b", "c")))[::9]]


def closed_by_words(agenda):
    """All closed sets, told by the document's words alone."""
    pairs = linked(agenda)
    return [chosen for chosen in subsets(agenda.answers)
            if not any(one in chosen and other not in chosen for one, other in pairs)]


def rule_by_words(agenda, answers):
    """The rule for two voters of a set of answers, told by the document's words alone."""
    tables = {}
    for issue in agenda.issues:
        said = [(one if one == other or (issue, one) in answers else other) for one, other in product((0, 1), repeat=2)]
        tables[issue] = tuple(said)
    return Rule(2, tables)


class ClosedTest(Calls):
    def test_all_closed_sets(self):
        for agenda in SOME:
            right = tuple(sorted(closed_by_words(agenda)))
            self.assertEqual(repr(self.told(closed_sets, agenda)), repr(right))
            for chosen in subsets(agenda.answers):
                self.assertIs(is_closed(agenda, chosen), chosen in right)

    def test_the_empty_set_and_all(self):
        for agenda in small_agendas():
            self.assertIs(is_closed(agenda, ()), True)
            self.assertIs(is_closed(agenda, agenda.answers), True)

    def test_no_sets(self):
        for value in NO_SETS:
            self.assertIs(is_closed(PAIR, value), False, value)
            self.assertIs(is_closed(Agenda.free(("a", "b")), value), False, value)
            self.refuse(InvalidOperation, least_closed, PAIR, value)
            self.refuse(InvalidOperation, rule_of, PAIR, value)
        self.judge_wrong(is_closed, PAIR)
        self.judge_wrong(is_closed, Agenda.free(("zz",)), right=[(("zz", 0),)])
        self.refuse_wrong(InvalidOperation, least_closed, PAIR, (), at=1)
        self.refuse_wrong(InvalidOperation, rule_of, PAIR, (), at=1)

    def test_union_and_what_they_have_in_common(self):
        for agenda in (PAIR, CLAIM, Agenda.free(("a", "b")), *SOME[4:20]):
            found = closed_sets(agenda)
            first, second = (Rule.of_voter(agenda.issues, 2, voter) for voter in (0, 1))
            for one, other in product(found, repeat=2):
                union, common = tuple(sorted({*one, *other})), tuple(sorted({*one} & {*other}))
                self.assertTrue(union in found and common in found)
                f, g = rule_of(agenda, one), rule_of(agenda, other)
                self.assertEqual(rule_of(agenda, union), f.put_in((first, g)))
                self.assertEqual(rule_of(agenda, common), f.put_in((g, second)))

    def test_least_closed(self):
        for agenda in SOME:
            found = closed_sets(agenda)
            for chosen in subsets(agenda.answers)[:40]:
                right = min((answers for answers in found if set(chosen) <= set(answers)), key=len)
                self.assertEqual(repr(self.told(least_closed, agenda, chosen)), repr(right))
            for answer in agenda.answers:
                self.assertEqual(least_closed(agenda, (answer,)), led_to(agenda, answer))

    def test_least_closed_of_more_issues(self):
        for agenda in mixed_agendas():
            pairs, found = linked(agenda), closed_sets(agenda)
            for chosen in [*subsets(agenda.answers)[:30], agenda.answers[1:4], agenda.answers[::3]]:
                right = set(chosen)
                for _ in agenda.answers:
                    right |= {other for one, other in pairs if one in right}
                self.assertEqual(repr(self.told(least_closed, agenda, chosen)), repr(tuple(sorted(right))))
                self.assertIn(tuple(sorted(right)), found)

    def test_six_issues(self):
        self.assertEqual(len(self.soon(closed_sets, Agenda.free(SIX))), 4096)
        for rows in (tuple(product((0, 1), repeat=6))[1:], ((0,) * 6, (1,) * 6), tuple(product((0, 1), repeat=6))[::3]):
            agenda = Agenda(SIX, rows)
            found = self.soon(closed_sets, agenda)
            self.assertEqual(found, tuple(sorted(found)))
            self.assertTrue(all(is_closed(agenda, answers) for answers in found[:30]))
            self.assertEqual(len(self.soon(least_closed, agenda, agenda.answers)), 12)


class RuleOfTest(Calls):
    def test_rules_of_all_sets(self):
        for agenda in SOME[:30]:
            made = set()
            for chosen in subsets(agenda.answers):
                rule = self.told(rule_of, agenda, chosen)
                self.assertEqual(rule, rule_by_words(agenda, chosen))
                self.assertIs(breach(agenda, rule) is None, is_closed(agenda, chosen))
                made.add(deep(rule))
            self.assertEqual(len(made), 4 ** len(agenda.issues))

    def test_all_answers_and_none(self):
        for agenda in small_agendas():
            self.assertEqual(rule_of(agenda, agenda.answers).followed(), 0)
            self.assertEqual(rule_of(agenda, ()).followed(), 1)

    def test_a_set_that_is_not_closed(self):
        rule = rule_of(CLAIM, (("p", 1),))
        self.assertEqual((rule["p"], rule["q"]), ((0, 1, 1, 1), (0, 1, 0, 1)))
        self.assertEqual(rule_of(CLAIM, (("p", 0),))["p"], (0, 0, 0, 1))


class SetOfTest(Calls):
    def test_to_and_fro(self):
        for agenda in SOME:
            for answers in closed_sets(agenda):
                self.assertEqual(repr(self.told(set_of, agenda, rule_of(agenda, answers))), repr(answers))

    def test_all_rules_for_two_voters_have_a_set(self):
        for agenda in (*SOME[:4], *SOME[4::7]):
            right = [rule for rule in all_rules(agenda.issues, 2) if is_rule_for(agenda, rule)]
            found = sorted((set_of(agenda, rule) for rule in right))
            self.assertEqual(tuple(found), closed_sets(agenda))

    def test_other_numbers_of_voters(self):
        for voters in (1, 3, 4):
            self.refuse(InvalidRule, set_of, CLAIM, Rule.of_voter(CLAIM.issues, voters, 0))
        # Ahead of the votes that show that it is no rule for the agenda.
        self.refuse(InvalidRule, set_of, ORDERS, MOST)
        # The votes of 64 rows and 4 voters would be too many.
        self.refuse(InvalidRule, set_of, Agenda.free(SIX), Rule.of_voter(SIX, 4, 0))

    def test_no_rule_for_the_agenda(self):
        for rule in all_rules(CLAIM.issues, 2):
            if not is_rule_for(CLAIM, rule):
                with self.assertRaises(NoRow) as caught:
                    set_of(CLAIM, rule)
                self.assertIs(type(caught.exception), NoRow)
                self.assertIs(is_breach(CLAIM, rule, caught.exception.votes), True)

    def test_wrong_rules(self):
        self.refuse_wrong(InvalidRule, set_of, CLAIM, BOTH, at=1, right=[BOTH])
        for rule in (BOTH.only(("p", "q")), BOTH.renamed({"p": "r"}), PAIR, None):
            self.refuse(InvalidRule, set_of, CLAIM, rule)


class GeneratorTest(Calls):
    def test_in_the_order_of_their_sets(self):
        for agenda in SOME:
            found = list(rules_for_two(agenda))
            self.assertEqual([set_of(agenda, rule) for rule in found], list(closed_sets(agenda)))
            self.assertEqual(deep(found), deep([rule_by_words(agenda, answers) for answers in closed_sets(agenda)]))
            self.assertEqual(deep(list(rules_for_two(agenda))), deep(found))

    def test_there_are_no_others(self):
        for agenda in (*SOME[:4], *SOME[4::7]):
            right = {deep(rule) for rule in all_rules(agenda.issues, 2) if is_rule_for(agenda, rule)}
            self.assertEqual({deep(rule) for rule in rules_for_two(agenda)}, right)

    def test_a_blocked_agenda_has_only_the_two(self):
        for agenda in SOME:
            followed = [rule.followed() for rule in rules_for_two(agenda)]
            self.assertIs(followed == [1, 0], is_blocked(agenda))

    def test_errors_come_with_the_first_element(self):
        for value in (None, PAIR.rows, (), "PAIR", BOTH):
            made = rules_for_two(value)
            self.assertIsInstance(made, GeneratorType)
            self.refuse(InvalidAgenda, next, made)
            self.assertEqual(list(made), [])
        self.refuse_wrong(InvalidAgenda, lambda agenda: next(rules_for_two(agenda)), PAIR, at=0,
                          right=(PAIR, EVEN, CLAIM))

    def test_it_goes_on_behind_its_first_element(self):
        made = rules_for_two(CLAIM)
        self.assertIsInstance(made, GeneratorType)
        self.assertEqual([next(made), next(made), next(made), next(made, None)], [SECOND, FIRST, BOTH, None])

    def test_two_at_once(self):
        one, other = rules_for_two(PAIR), rules_for_two(PAIR)
        self.assertEqual([next(one) == next(other) for _ in range(4)], [True] * 4)

    def test_six_issues(self):
        self.assertEqual(len(self.soon(list, rules_for_two(Agenda.free(SIX)))), 4096)


class WinnersTest(Calls):
    def test_who_wins_an_answer_wins_those_to_which_it_leads(self):
        # [0.12], for all rules for two voters.
        for agenda in (PAIR, CLAIM, EVEN, ORDERS):
            for rule in rules_for_two(agenda):
                for one in agenda.answers:
                    for other in led_to(agenda, one):
                        self.assertLessEqual(won_by(rule, one), won_by(rule, other))


def won_by(rule, answer):
    """The sets of voters that win an answer in a rule for two voters."""
    issue, value = answer
    sets = {(): (1 - value, 1 - value), (0,): (value, 1 - value), (1,): (1 - value, value), (0, 1): (value, value)}
    return {voters for voters, (one, other) in sets.items() if rule[issue][2 * one + other] == value}


class WrongTest(Calls):
    def test_no_agenda(self):
        for call, more in ((is_closed, ((),)), (closed_sets, ()), (least_closed, ((),)), (rule_of, ((),)),
                           (set_of, (BOTH,))):
            self.refuse_wrong(InvalidAgenda, call, CLAIM, *more, at=0, right=(PAIR, EVEN, CLAIM))
            self.refuse(InvalidAgenda, call, None, *[None for _ in more])


if __name__ == "__main__":
    unittest.main()
