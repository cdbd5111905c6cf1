"""Even-handed rules: points [0.16], [10.1] and [10.2] and stage 10."""

import unittest
from itertools import permutations, product

from oneswill.base.agendas import Agenda
from oneswill.errors import InvalidAgenda, InvalidNumber, InvalidOperation, InvalidRule, UnknownName
from oneswill.link.links import chain, is_chain, knots
from oneswill.rule.even import even_paper, even_rule, even_sides, fair_at, has_even, is_even_handed, is_even_paper
from oneswill.rule.even import sides
from oneswill.rule.rules import Rule
from oneswill.rule.twos import is_closed
from tests.common import BOTH, CLAIM, EVEN, MOST, ORDERS, PAIR, SIX, Calls, all_agendas, all_rules, deep, is_rule_for
from tests.common import small_agendas, wrong_values

EXCHANGED = (0, 2, 1, 3)
FREE = Agenda.free(SIX)
SOME = [PAIR, CLAIM, EVEN, ORDERS, *all_agendas(("a", "b")), *list(all_agendas(("a", "b", "c")))[::9]]
# No sides for the issues a and b.
NO_SIDES = (
    {}, {"a": 0}, {"a": 0, "b": 1, "c": 0}, {"a": 0, "c": 1}, {"a": 0, "b": True}, {"a": False, "b": 0},
    {"a": 0, "b": 2}, {"a": 0, "b": -1}, {"a": 0, "b": None}, {"a": 0, "b": "0"}, {"a": 0, "b": (0,)},
    {"a": 0, "b": [0]},
    {"a": 0, "B": 0}, {"a": 0, "": 0}, {"a": 0, 0: 0}, {"a": 0, None: 0}, {"a": 0, ("b",): 0}, {"a": 0, "b": 0, 1: 0},
    (("a", 0), ("b", 1)), [("a", 0), ("b", 1)], ("a", "b"), (0, 1), "ab", None, 0, (), [], PAIR, BOTH,
)


def even_by_words(agenda):
    """The sides of all even-handed rules for the agenda, told by the document's words alone."""
    found = []
    for values in product((0, 1), repeat=len(agenda.issues)):
        told = dict(zip(agenda.issues, values))
        if is_rule_for(agenda, Rule(2, {issue: (0, side, side, 1) for issue, side in told.items()})):
            found.append(told)
    return tuple(found)


class EvenHandedTest(Calls):
    def test_just_the_rules_that_stay_the_same(self):
        for rule in [*all_rules(("a",), 2), *all_rules(("a", "b"), 2), *all_rules(("a", "b", "c"), 2)]:
            right = all(rule[issue][at] == rule[issue][EXCHANGED[at]] for issue in rule.issues for at in range(4))
            self.assertIs(self.told(is_even_handed, rule), right)
            if right:
                found = self.told(sides, rule)
                self.assertEqual(deep(found), deep({issue: rule[issue][1] for issue in rule.issues}))
                self.assertEqual(list(found), sorted(found))
                self.assertEqual(even_rule(found, 2), rule)
            else:
                self.refuse(InvalidOperation, sides, rule)

    def test_the_returned_dict_is_no_part_of_the_rule(self):
        found = sides(BOTH)
        found["p"] = 1
        del found["q"]
        self.assertEqual(sides(BOTH), {"both": 0, "p": 0, "q": 0})

    def test_other_numbers_of_voters(self):
        for rule in (MOST, Rule.of_voter(("a",), 1, 0), Rule.of_voter(("a",), 4, 0), even_rule({"a": 0}, 3)):
            self.refuse(InvalidRule, is_even_handed, rule)
            self.refuse(InvalidRule, sides, rule)

    def test_no_rule(self):
        for value in wrong_values():
            if deep(value) != deep(BOTH):
                self.refuse(InvalidRule, is_even_handed, value)
                self.refuse(InvalidRule, sides, value)


class EvenRuleTest(Calls):
    def test_tables(self):
        for voters in range(1, 5):
            rule = self.told(even_rule, {"b": 1, "a": 0}, voters)
            self.assertEqual((rule.voters, rule.issues), (voters, ("a", "b")))
            for values, low, high in zip(product((0, 1), repeat=voters), rule["a"], rule["b"]):
                self.assertEqual((low, high), (min(values), max(values)))

    def test_any_voters_can_be_exchanged(self):
        for voters in range(1, 5):
            rule = even_rule({"a": 0, "b": 1, "c": 1}, voters)
            for voices in permutations(range(voters)):
                self.assertEqual(rule.spoken(voices, voters), rule)

    def test_a_rule_for_each_number_of_voters(self):
        for agenda in (PAIR, CLAIM, *SOME[4:]):
            for told in even_sides(agenda):
                for voters in range(1, 5):
                    self.assertTrue(is_rule_for(agenda, even_rule(told, voters)))

    def test_the_order_of_the_dict_has_no_effect(self):
        told = {"p": 1, "both": 0, "q": 1}
        for order in permutations(told):
            self.assertEqual(deep(even_rule({issue: told[issue] for issue in order}, 3)), deep(even_rule(told, 3)))

    def test_no_sides(self):
        for told in NO_SIDES:
            if told not in ({"a": 0}, {"a": 0, "b": 1, "c": 0}, {"a": 0, "c": 1}):
                self.refuse(InvalidOperation, even_rule, told, 2)
                # They are told ahead of a wrong number of voters.
                self.refuse(InvalidOperation, even_rule, told, None)
        self.refuse(InvalidOperation, even_rule, {issue: 0 for issue in SIX + ("g",)}, 2)
        self.refuse_wrong(InvalidOperation, even_rule, {"a": 0}, 2, at=0, right=[{"a": 0}])

    def test_wrong_numbers(self):
        for voters in (0, 5, -1, True, False, None, "2", (2,), 10 ** 59, 10 ** 60):
            self.refuse(InvalidNumber, even_rule, {"a": 0}, voters, value=voters)
        self.refuse_wrong(InvalidNumber, even_rule, {"a": 0}, 2, at=1, right=[1, 2], keeps="value")


class SidesTest(Calls):
    def test_all_sides(self):
        for agenda in SOME:
            right = even_by_words(agenda)
            self.assertEqual(deep(self.told(even_sides, agenda)), deep(right))
            self.assertIs(self.told(has_even, agenda), right != ())

    def test_sides_are_closed_sets(self):
        for agenda in SOME:
            found = even_sides(agenda)
            for values in product((0, 1), repeat=len(agenda.issues)):
                answers = tuple(zip(agenda.issues, values))
                self.assertIs(is_closed(agenda, answers), dict(answers) in found)

    def test_no_knot_has_both_answers(self):
        for agenda in small_agendas():
            both = any((issue, 0) in knot and (issue, 1) in knot for knot in knots(agenda) for issue in agenda.issues)
            self.assertIs(has_even(agenda), not both)

    def test_returned_dicts_are_new(self):
        found = even_sides(PAIR)
        found[0]["a"] = 9
        self.assertEqual(even_sides(PAIR), ({"a": 0, "b": 1}, {"a": 1, "b": 0}))

    def test_six_issues(self):
        self.assertEqual(len(self.soon(even_sides, FREE)), 64)
        for rows in (FREE.rows[1:], FREE.rows[1:-1], FREE.rows[::5], ((0,) * 6, (1,) * 6)):
            agenda = Agenda(SIX, rows)
            self.soon(even_sides, agenda)
            self.assertIs(self.soon(is_even_paper, agenda, self.soon(even_paper, agenda)), True)
            for issue in SIX:
                self.soon(fair_at, agenda, issue)


class PaperTest(Calls):
    def test_papers(self):
        for agenda in small_agendas():
            found = self.told(even_paper, agenda)
            self.assertEqual(found[0], "even" if has_even(agenda) else "odd")
            self.assertIs(is_even_paper(agenda, found), True)
            if found[0] == "even":
                self.assertIn(found[1], even_sides(agenda))
                self.assertEqual(list(found[1]), list(agenda.issues))
            else:
                _, issue, there, back = found
                self.assertTrue(is_chain(agenda, there) and is_chain(agenda, back))
                self.assertEqual((there[0], there[-1]), ((issue, 0), (issue, 1)))
                self.assertEqual((back[0], back[-1]), ((issue, 1), (issue, 0)))

    def test_just_the_sides(self):
        for agenda in SOME:
            right = even_sides(agenda)
            for values in product((0, 1), repeat=len(agenda.issues)):
                told = dict(zip(agenda.issues, values))
                for order in (told, dict(reversed(told.items()))):
                    self.assertIs(is_even_paper(agenda, ("even", order)), told in right)

    def test_no_sides(self):
        for agenda in (PAIR, Agenda.free(("a", "b"))):
            for told in NO_SIDES:
                self.assertIs(is_even_paper(agenda, ("even", told)), False, told)

    def test_every_chain(self):
        for issue in ORDERS.issues:
            there, back = chain(ORDERS, (issue, 0), (issue, 1)), chain(ORDERS, (issue, 1), (issue, 0))
            self.assertIs(is_even_paper(ORDERS, ("odd", issue, there, back)), True)
            # Longer chains, which lead round once more.
            self.assertIs(is_even_paper(ORDERS, ("odd", issue, there + back[1:] + there[1:], back)), True)
            self.assertIs(is_even_paper(ORDERS, ("odd", issue, there, back + there[1:] + back[1:])), True)
            for one, other in ((back, there), (there, there), (back, back), (there[:-1], back), (there, back[1:]),
                               (there[::-1], back), (there, ()), ((), back), (there[:1], back), (there, back[:1]),
                               (there[:1] + there[2:], back), (list(there), back), (there, list(back)), (None, back),
                               (there, None), (there + there[-1:], back), (there, there[-1:]), (there + back, back),
                               (there + back[1:], back), (there, [there])):
                self.assertIs(is_even_paper(ORDERS, ("odd", issue, one, other)), False, (one, other))

    def test_a_chain_for_another_issue(self):
        there, back = chain(ORDERS, ("ab", 0), ("ab", 1)), chain(ORDERS, ("ab", 1), ("ab", 0))
        for issue in ("ac", "bc", "zz", "", "AB", None, 0, ("ab",), ["ab"], ("ab", 0), {"ab": 0}, True, ORDERS):
            self.assertIs(is_even_paper(ORDERS, ("odd", issue, there, back)), False)

    def test_a_missing_link(self):
        for agenda in (PAIR, CLAIM, Agenda.free(("a",)), Agenda.free(("a", "b"))):
            for issue in agenda.issues:
                no, yes = (issue, 0), (issue, 1)
                self.assertIs(is_even_paper(agenda, ("odd", issue, (no, yes), (yes, no))), False)

    def test_no_papers(self):
        _, issue, there, back = even_paper(ORDERS)
        self.assertIs(is_even_paper(ORDERS, ("odd", issue, there, back)), True)
        for value in (("odd", issue, there), ("odd", issue, there, back, back), ("even", issue, there, back), ("odd",),
                      ["odd", issue, there, back], ("odd", there, back), (issue, there, back),
                      ("Odd", issue, there, back),
                      (None, issue, there, back), ("odd", issue), ("odd", {"ab": 0, "ac": 0, "bc": 0}), None, 0, (), "",
                      {}, {"odd": issue}, (there, back), ORDERS, MOST, ("even", {"ab": 0, "ac": 0, "bc": 0})):
            self.assertIs(is_even_paper(ORDERS, value), False, value)
        told = {"both": 0, "p": 0, "q": 0}
        self.assertIs(is_even_paper(CLAIM, ("even", told)), True)
        for value in (("even",), ("even", told, told), ["even", told], ("odd", told), ("sides", told), told,
                      (told, "even"),
                      ("even", BOTH), ("even", (told,)), ("even", told, None, None), (None, told), (BOTH, told)):
            self.assertIs(is_even_paper(CLAIM, value), False, value)
        for agenda in (PAIR, CLAIM, ORDERS):
            self.judge_wrong(is_even_paper, agenda)


class FairTest(Calls):
    def test_just_where_some_rule_is_fair(self):
        for agenda in SOME:
            rules = [rule for rule in all_rules(agenda.issues, 2) if is_rule_for(agenda, rule)]
            for issue in agenda.issues:
                right = any(rule[issue][1] == rule[issue][2] for rule in rules)
                found = self.told(fair_at, agenda, issue)
                self.assertIs(found is not None, right)
                if right:
                    self.assertEqual(found[issue][1], found[issue][2])
                    self.assertIn(deep(found), [deep(rule) for rule in rules])

    def test_one_rule_for_all_issues_if_one_for_each(self):
        # [0.16]
        for agenda in small_agendas():
            each = all(fair_at(agenda, issue) is not None for issue in agenda.issues)
            self.assertIs(has_even(agenda), each)

    def test_fair_at_some_issues_only(self):
        agenda = ORDERS + Agenda.free(("x",))
        self.assertEqual([fair_at(agenda, issue) is None for issue in agenda.issues], [True, True, True, False])
        self.assertEqual(is_rule_for(agenda, fair_at(agenda, "x")), True)

    def test_no_issue(self):
        self.refuse(UnknownName, fair_at, CLAIM, "r", name="r")
        self.refuse_wrong(UnknownName, fair_at, CLAIM, "p", at=1, keeps="name")


class WrongTest(Calls):
    def test_no_agenda(self):
        for call, more in ((has_even, ()), (even_sides, ()), (even_paper, ()), (is_even_paper, (None,)),
                           (fair_at, ("p",))):
            self.refuse_wrong(InvalidAgenda, call, CLAIM, *more, at=0, right=(PAIR, EVEN, CLAIM))
            self.refuse(InvalidAgenda, call, ORDERS.rows, *[None for _ in more])


if __name__ == "__main__":
    unittest.main()
