"""Rules and what they tell: points [0.10] and [0.19] and class Rule of stage 6."""

import unittest
from itertools import permutations, product

from oneswill.base.agendas import Agenda
from oneswill.errors import InvalidNumber, InvalidOperation, InvalidRule, UnknownName
from oneswill.rule import rules
from oneswill.rule.rules import MAX_VOTERS, MAX_VOTES, Rule
from tests.common import BOTH, CLAIM, MOST, ORDERS, PAIR, SIX, Calls, all_rules, deep, is_rule_for, outcome_of
from tests.common import subsets, wrong_values

# Rules for one to four voters, and with one to six issues.
HALF = Rule(2, {"a": (0, 0, 0, 1), "b": (0, 0, 1, 1)})
ODD = Rule(3, {"a": (0, 1, 1, 0, 1, 0, 0, 1), "b": (0, 0, 1, 0, 1, 0, 0, 1), "zz": (0, 0, 0, 1, 1, 1, 1, 1)})
FOUR = Rule(4, {issue: (0, *[(5 * at + k) % 3 % 2 for k in range(14)], 1) for at, issue in enumerate(SIX)})
ONE = Rule(1, {"p": (0, 1), "q": (0, 1)})
RULES = (BOTH, MOST, HALF, ODD, FOUR, ONE, Rule(4, {"a": (0,) * 15 + (1,)}))
NO_VOTERS = (0, 5, 6, -1, 10 ** 59, 10 ** 60, 10 ** 99, True, False, None, "1", "", (1,), [1], {1: 1}, PAIR)
NO_ISSUES = ((), SIX + ("g",), ("b", "a"), ("a", "a"), ["a"], "a", ("A",), (1,), None, 0, {"a": 0}, (("a",),), PAIR,
             BOTH)


def worth(rule, issue, values):
    """The value of a rule for the values of the voters."""
    return rule[issue][list(product((0, 1), repeat=rule.voters)).index(tuple(values))]


def listed(rule):
    """The tables of a rule as a dict from pairs of an issue and the voters' values."""
    cases = list(product((0, 1), repeat=rule.voters))
    return {(issue, values): worth(rule, issue, values) for issue in rule.issues for values in cases}


class MadeTest(Calls):
    def test_numbers(self):
        self.assertEqual((MAX_VOTERS, MAX_VOTES), (4, 200000))
        for voters in range(1, 5):
            rule = Rule(voters, {"a": (0,) * (2 ** voters - 1) + (1,)})
            self.assertEqual((rule.voters, rule.issues), (voters, ("a",)))

    def test_no_numbers(self):
        for voters in NO_VOTERS:
            self.refuse(InvalidNumber, Rule, voters, {"a": (0, 1)}, value=voters)
            # It is told ahead of wrong tables.
            self.refuse(InvalidNumber, Rule, voters, None, value=voters)
        for value in wrong_values():
            if deep(value) not in ("1", "2"):
                self.refuse(InvalidNumber, Rule, value, {"a": (0, 1)}, value=value)

    def test_tables(self):
        for table in product((0, 1), repeat=4):
            if table[0] == 0 and table[3] == 1:
                self.assertEqual(Rule(2, {"a": table})["a"], table)
            else:
                self.refuse(InvalidRule, Rule, 2, {"a": table})

    def test_no_tables(self):
        for table in ((), (0,), (0, 1), (0, 1, 1), (0, 0, 0, 0, 1), (0, 0, 0, 0, 0, 0, 0, 1), (1, 0, 0, 1),
                      (0, 1, 1, 0),
                      (0, 2, 0, 1), (0, -1, 0, 1), (False, 0, 0, 1), (0, 0, 0, True), (0, True, 0, 1), (0, None, 0, 1),
                      [0, 0, 0, 1], "0001", None, 1, ((0, 0, 0, 1),), (0, (0,), 0, 1), (0, [0], 0, 1), {}, PAIR, HALF):
            self.refuse(InvalidRule, Rule, 2, {"a": table})
            self.refuse(InvalidRule, Rule, 2, {"a": (0, 0, 0, 1), "b": table})

    def test_no_dicts(self):
        table = (0, 1)
        for tables in ({}, {issue: table for issue in SIX + ("g",)}, {"A": table}, {"": table}, {"abcdefghi": table},
                       {0: table}, {True: table}, {None: table}, {("a",): table}, {"a": table, 0: table},
                       {"a": table, None: table}, {"a1": table}, (("a", table),), [("a", table)], "a", None, 0, PAIR):
            self.refuse(InvalidRule, Rule, 1, tables)
        self.refuse_wrong(InvalidRule, Rule, 1, {"a": table}, at=1)

    def test_it_keeps_nothing_of_the_dict(self):
        tables = {"b": (0, 1), "a": (0, 1)}
        rule = self.told(Rule, 1, tables)
        tables["c"] = (0, 1)
        del tables["a"]
        self.assertEqual((rule.issues, list(rule), len(rule), rule["a"]), (("a", "b"), ["a", "b"], 2, (0, 1)))

    def test_the_order_of_the_dict_has_no_effect(self):
        for order in permutations(ODD.issues):
            self.assertEqual(deep(Rule(3, {issue: ODD[issue] for issue in order})), deep(ODD))

    def test_a_rule_stays_what_it_is(self):
        before = deep(HALF)
        for name in ("voters", "issues"):
            with self.assertRaises(AttributeError):
                setattr(HALF, name, 3)
        with self.assertRaises(TypeError):
            HALF["a"] = (0, 1)
        self.assertEqual(deep(HALF), before)

    def test_parts_of_the_interface_stand_in_the_class(self):
        for name in ("__init__", "__getitem__", "__call__", "__contains__", "__len__", "__eq__", "__str__", "__iter__",
                     "of_voter", "voters", "issues", "followed", "heard", "only", "turned", "renamed", "spoken",
                     "put_in"):
            self.assertIn(name, vars(Rule))
        for name in ("Rule", "is_rule", "breach", "is_breach", "outcome"):
            self.assertEqual(getattr(rules, name).__module__, "oneswill.rule.rules")


class OfVoterTest(Calls):
    def test_tables(self):
        for voters in range(1, 5):
            for voter in range(voters):
                rule = self.told(Rule.of_voter, ("a", "bc"), voters, voter)
                right = tuple(values[voter] for values in product((0, 1), repeat=voters))
                self.assertEqual((rule.voters, rule.issues, rule["a"], rule["bc"]), (voters, ("a", "bc"), right, right))
                self.assertEqual(rule.followed(), voter)

    def test_wrong_arguments_in_their_order(self):
        for issues in NO_ISSUES:
            self.refuse(InvalidRule, Rule.of_voter, issues, 2, 1)
            self.refuse(InvalidRule, Rule.of_voter, issues, 9, None)
        for voters in NO_VOTERS:
            self.refuse(InvalidNumber, Rule.of_voter, ("a",), voters, 0, value=voters)
            self.refuse(InvalidNumber, Rule.of_voter, ("a",), voters, -1, value=voters)
        for voter in (2, 3, -1, True, False, None, "0", (0,), [0], 10 ** 60, -(10 ** 59)):
            self.refuse(InvalidNumber, Rule.of_voter, ("a",), 2, voter, value=voter)
        self.refuse(InvalidNumber, Rule.of_voter, ("a",), 4, 4, value=4)
        self.refuse_wrong(InvalidRule, Rule.of_voter, ("a",), 2, 0, at=0, right=[("zz",)])
        self.refuse_wrong(InvalidNumber, Rule.of_voter, ("a",), 2, 0, at=1, right=[1, 2], keeps="value")
        self.refuse_wrong(InvalidNumber, Rule.of_voter, ("a",), 2, 0, at=2, right=[0, 1], keeps="value")


class ToldTest(Calls):
    def test_tables(self):
        self.assertEqual((HALF["a"], HALF["b"]), ((0, 0, 0, 1), (0, 0, 1, 1)))
        for value in wrong_values():
            self.refuse(UnknownName, lambda: BOTH[value], name=value)
        self.refuse(UnknownName, lambda: BOTH["r"], name="r")
        self.assertEqual(str(UnknownName("r")), "'r'")

    def test_outcomes(self):
        for rule in (BOTH, HALF, ODD, ONE):
            values = list(product((0, 1), repeat=len(rule)))
            for votes in product(values, repeat=rule.voters):
                self.assertEqual(repr(rule(votes)), repr(outcome_of(rule, votes)))

    def test_outcomes_of_four_voters_with_six_issues(self):
        values = list(product((0, 1), repeat=6))
        for at in range(0, 64, 5):
            votes = (values[at], values[at - 7], values[at * 11 % 64], values[-at])
            self.assertEqual(self.told(FOUR, votes), outcome_of(FOUR, votes))

    def test_what_all_say_is_the_outcome(self):
        for rule in RULES:
            for values in product((0, 1), repeat=len(rule)):
                self.assertEqual(rule((values,) * rule.voters), values)

    def test_no_votes(self):
        for votes in ((), ((0, 1),), ((0, 1), (0, 1), (0, 1)), ((0, 1), (0,)), ((0, 1), (0, 1, 1)), ((0, 1), ()),
                      ((0, 1), [0, 1]), [(0, 1), (0, 1)], ((0, 1), (0, True)), ((False, 1), (0, 1)), ((0, 1), (0, 2)),
                      ((0, 1), None), ((0, 1), "01"), "01", None, 0, (0, 1), {(0, 1): 0, (1, 1): 0}, ((0, 1), (0, -1)),
                      ((0, 1), (0, None)), PAIR, HALF):
            self.refuse(InvalidOperation, HALF, votes)
        self.refuse_wrong(InvalidOperation, ODD, ((0, 0, 0),) * 3, at=0)
        self.refuse_wrong(InvalidOperation, Rule(2, {"a": (0, 1, 0, 1)}), ((0,), (0,)), at=0)

    def test_issues_are_in_it(self):
        for issue in ODD.issues:
            self.assertIs(issue in ODD, True)
        for value in [*wrong_values(), "r", ("p",), ["p"], 0, BOTH.issues]:
            self.assertIs(value in BOTH, False)

    def test_len_and_str(self):
        self.assertEqual([len(rule) for rule in RULES], [3, 3, 2, 3, 6, 2, 1])
        self.assertEqual(str(FOUR), "rule of 4 voters, 6 issues")
        self.assertEqual(str(Rule(1, {"a": (0, 1)})), "rule of 1 voters, 1 issues")

    def test_iteration(self):
        for rule in RULES:
            self.assertEqual((list(rule), tuple(rule)), (sorted(rule.issues), rule.issues))
        self.assertEqual(list(Rule(1, {"b": (0, 1), "ab": (0, 1)})), ["ab", "b"])

    def test_equal_rules(self):
        made = [*RULES, *all_rules(("a",), 2), *all_rules(("a", "b"), 2), Rule(1, {"a": (0, 1)}),
                Rule.of_voter(("a",), 4, 1)]
        for one in made:
            for other in made:
                same = deep(one) == deep(other)
                self.assertEqual((one == other, one != other), (same, not same))
        again = Rule(2, {"b": (0, 0, 1, 1), "a": (0, 0, 0, 1)})
        self.assertIs(HALF == again, True)
        self.assertIs(HALF != again, False)

    def test_other_values_are_not_equal(self):
        rule = Rule(1, {"a": (0, 1)})
        for value in [*wrong_values(), {"a": (0, 1)}, ("a",), Agenda.free(("a",)), (0, 1), str(rule)]:
            self.assertEqual([rule == value, value == rule, rule != value, value != rule], [False, False, True, True])

    def test_followed(self):
        for rule in all_rules(("a", "b"), 2) + [rule.spoken((0, 2), 3) for rule in all_rules(("a", "b"), 2)]:
            cases = list(product((0, 1), repeat=rule.voters))
            right = [voter for voter in range(rule.voters)
                     if all(worth(rule, issue, values) == values[voter] for issue in rule.issues for values in cases)]
            self.assertEqual(repr(self.told(rule.followed)), repr(right[0] if right else None))
        self.assertEqual(ONE.followed(), 0)
        self.assertIsNone(FOUR.followed())

    def test_heard(self):
        for rule in (*RULES, *all_rules(("a",), 2), *all_rules(("a",), 3), MOST.spoken((3, 1, 1), 4)):
            cases = list(product((0, 1), repeat=rule.voters))
            for issue in rule.issues:
                right = [voter for voter in range(rule.voters) for values in cases
                         if worth(rule, issue, values)
                         != worth(rule, issue, values[:voter] + (1 - values[voter],) + values[voter + 1:])]
                self.assertEqual(repr(self.told(rule.heard, issue)), repr(tuple(sorted(set(right)))))

    def test_heard_for_no_issue(self):
        self.refuse(UnknownName, BOTH.heard, "r", name="r")
        self.refuse_wrong(UnknownName, BOTH.heard, "p", at=0, keeps="name")


class EditsTest(Calls):
    def test_only(self):
        for rule in RULES:
            for issues in subsets(rule.issues)[1:]:
                before = deep(rule)
                found = self.told(rule.only, issues)
                self.assertEqual(found, Rule(rule.voters, {issue: rule[issue] for issue in issues}))
                self.assertEqual(deep(rule), before)

    def test_turned(self):
        for rule in RULES:
            for issues in subsets(rule.issues):
                before, found = deep(rule), self.told(rule.turned, issues)
                for (issue, values), value in listed(rule).items():
                    turned = tuple(1 - item for item in values) if issue in issues else values
                    self.assertEqual(worth(found, issue, turned), 1 - value if issue in issues else value)
                self.assertEqual((deep(rule), found.turned(issues)), (before, rule))

    def test_turned_keeps_kinds(self):
        self.assertEqual(repr(HALF.turned(("a", "b"))["a"]), "(0, 1, 1, 1)")

    def test_no_set_of_issues(self):
        for issues in (("q", "p"), ("p", "p"), ("r",), ("p", "r"), ["p"], [], "p", "", {}, {"p": 1}, None, 0, (0,),
                       (True,),
                       (("p",),), (["p"],), ("P",), ("both", "p", "q", "r"), PAIR):
            self.refuse(InvalidOperation, BOTH.only, issues)
            self.refuse(InvalidOperation, BOTH.turned, issues)
        self.refuse(InvalidOperation, BOTH.only, ())
        self.refuse_wrong(InvalidOperation, BOTH.only, ("p",), at=0)
        self.refuse_wrong(InvalidOperation, BOTH.turned, ("p",), at=0)

    def test_renamed(self):
        for names in ({}, {"a": "c"}, {"a": "zzz"}, {"a": "b", "b": "a"}, {"zz": "a", "a": "zz"}, {"b": "b"},
                      {"a": "b", "b": "zz", "zz": "a"}):
            before, found = deep(ODD), self.told(ODD.renamed, names)
            self.assertEqual(found.issues, tuple(sorted(names.get(issue, issue) for issue in ODD.issues)))
            for issue in ODD.issues:
                self.assertEqual(found[names.get(issue, issue)], ODD[issue])
            self.assertEqual(deep(ODD.renamed(dict(reversed(names.items())))), deep(found))
            self.assertEqual(deep(ODD), before)

    def test_no_renaming(self):
        for names in ({"r": "s"}, {"p": "q"}, {"p": "r", "q": "r"}, {"p": "P"}, {"p": ""}, {"p": 0}, {0: "r"},
                      {True: "r"},
                      (("p", "r"),), [], (), "", None, 0, {("p",): "r"}, {"p": ["r"]}, {"p": "r", "s": "t"}):
            self.refuse(InvalidOperation, BOTH.renamed, names)
        self.refuse_wrong(InvalidOperation, BOTH.renamed, {}, at=0)

    def test_spoken(self):
        for rule in (BOTH, HALF, ODD, ONE, FOUR.only(("a", "b"))):
            for voters in range(1, 5):
                for voices in list(product(range(voters), repeat=rule.voters))[:40]:
                    before, found = deep(rule), self.told(rule.spoken, voices, voters)
                    self.assertEqual((found.voters, found.issues), (voters, rule.issues))
                    for (issue, values), value in listed(found).items():
                        self.assertEqual(value, worth(rule, issue, [values[voice] for voice in voices]))
                    self.assertEqual(deep(rule), before)

    def test_one_voter_named_for_all(self):
        self.assertEqual(MOST.spoken((2, 2, 2), 4), Rule.of_voter(MOST.issues, 4, 2))
        self.assertEqual(BOTH.spoken((0, 1), 2), BOTH)

    def test_no_voices(self):
        for voices in ((), (0,), (0, 1, 2), [0, 1], (0, -1), (0, True), (False, 1), (0, None), (0, "1"), (0, (1,)),
                       "01",
                       None, 0, {0: 1, 1: 0}, (0, 10 ** 60), (10 ** 99, 0), PAIR, HALF):
            self.refuse(InvalidOperation, BOTH.spoken, voices, 3)
            self.refuse(InvalidOperation, BOTH.spoken, voices, 0)
            self.refuse(InvalidOperation, BOTH.spoken, voices, None)
        self.refuse_wrong(InvalidOperation, BOTH.spoken, (0, 1), 2, at=0)

    def test_no_voter_is_there(self):
        for voices in ((0, 2), (2, 0), (0, 10 ** 59), (3, 3)):
            self.refuse(InvalidOperation, BOTH.spoken, voices, 2)
            # Wrong numbers of voters come first.
            for voters in NO_VOTERS:
                self.refuse(InvalidNumber, BOTH.spoken, voices, voters, value=voters)
        self.refuse_wrong(InvalidNumber, BOTH.spoken, (0, 0), 2, at=1, right=[1, 2], keeps="value")

    def test_put_in(self):
        for outer in (HALF, *all_rules(("a", "b"), 2)[::3]):
            for inner in (all_rules(("a", "b"), 2)[1:12:5], [ODD.only(("a", "b")), MOST.only(("ab", "ac")).renamed(
                    {"ab": "a", "ac": "b"})], [ONE.renamed({"p": "a", "q": "b"})] * 2, [FOUR.only(("a", "b"))] * 2):
                for put in product(inner, repeat=2):
                    before, found = deep([outer, *put]), self.told(outer.put_in, put)
                    self.assertEqual((found.voters, found.issues), (put[0].voters, ("a", "b")))
                    for (issue, values), value in listed(found).items():
                        said = [worth(rule, issue, values) for rule in put]
                        self.assertEqual(value, worth(outer, issue, said))
                    self.assertEqual(deep([outer, *put]), before)

    def test_put_in_one_and_four(self):
        self.assertEqual(ONE.put_in((BOTH.only(("p", "q")),)), BOTH.only(("p", "q")))
        four = Rule.of_voter(("p", "q"), 4, 3)
        self.assertEqual(four.put_in((ONE, ONE, ONE, ONE)), ONE)

    def test_nothing_to_put_in(self):
        other, three = BOTH.renamed({"p": "pp"}), BOTH.spoken((0, 1), 3)
        for put in ((), (BOTH,), (BOTH, BOTH, BOTH), [BOTH, BOTH], (BOTH, other), (other, other), (BOTH, three),
                    (three, BOTH), (BOTH, None), (BOTH, CLAIM), BOTH, None, 0, "", {0: BOTH, 1: BOTH}, (BOTH, (BOTH,)),
                    (BOTH, BOTH.only(("p", "q"))), (MOST, MOST), ({}, BOTH)):
            self.refuse(InvalidOperation, BOTH.put_in, put)
        self.refuse_wrong(InvalidOperation, BOTH.put_in, (BOTH, BOTH), at=0, right=[(BOTH, BOTH)])


class TrueStatementsTest(Calls):
    """Point [0.19]."""

    def setUp(self):
        self.rules = [rule for rule in all_rules(CLAIM.issues, 2) if is_rule_for(CLAIM, rule)]

    def test_rules_put_into_one_another(self):
        for outer in self.rules:
            for put in product(self.rules, repeat=2):
                self.assertTrue(is_rule_for(CLAIM, outer.put_in(put)))

    def test_voters_made_one(self):
        for rule in self.rules:
            for voices in product(range(3), repeat=2):
                self.assertTrue(is_rule_for(CLAIM, rule.spoken(voices, 3)))

    def test_cut_renamed_and_turned(self):
        for rule in self.rules:
            for issues in subsets(CLAIM.issues):
                if issues:
                    self.assertTrue(is_rule_for(CLAIM.only(issues), rule.only(issues)))
                self.assertTrue(is_rule_for(CLAIM.turned(issues), rule.turned(issues)))
            names = {"both": "z", "p": "q", "q": "p"}
            self.assertTrue(is_rule_for(CLAIM.renamed(names), rule.renamed(names)))

    def test_beside_one_another(self):
        tables = {issue: (0, 0, 1, 1) for issue in PAIR.issues} | {issue: (0, 1, 0, 1) for issue in ORDERS.issues}
        self.assertTrue(is_rule_for(PAIR + ORDERS, Rule(2, tables)))


if __name__ == "__main__":
    unittest.main()
