"""Another rule, or one person's will: points [0.14], [0.15], [0.18] and [0.19] and stage 9."""

import unittest
from itertools import combinations, permutations, product

from oneswill.base.agendas import Agenda, contrary
from oneswill.base.clashes import is_clash, is_least_clash, least_clashes
from oneswill.errors import InvalidAgenda, InvalidNumber, InvalidOperation, InvalidRule, NoRow, TooMany
from oneswill.link.links import is_blocked, links
from oneswill.rule.rules import Rule, is_breach
from oneswill.rule.sums import is_summed, sum_rule, summed_voters
from oneswill.rule.verdict import another, has_another, is_paper, only_sums, paper
from tests.common import BOTH, CLAIM, EVEN, MOST, ORDERS, PAIR, SIX, Calls, all_agendas, all_rules, is_rule_for
from tests.common import small_agendas

FREE = Agenda.free(SIX)
LOW, HIGH = (("ab", 0), ("ac", 1), ("bc", 0)), (("ab", 1), ("ac", 0), ("bc", 1))
WEB = ((("ab", 0), ("ac", 0), LOW), (("ac", 0), ("bc", 0), HIGH), (("bc", 0), ("ab", 1), LOW),
       (("ab", 1), ("ac", 1), HIGH), (("ac", 1), ("bc", 1), LOW), (("bc", 1), ("ab", 0), HIGH))
ROWS = ((0, 0, 0), (0, 0, 1), (0, 1, 1))
# Blocked and not summed, with six issues and as many rows as there can be.
FULL = Agenda(SIX, tuple(row for row in product((0, 1), repeat=6) if sum(row) not in (0, 6)))
# The orders of four things.
FOUR = Agenda(("ab", "ac", "ad", "bc", "bd", "cd"), tuple(sorted(
    tuple(int(order.index(one) < order.index(other)) for one, other in combinations("abcd", 2))
    for order in permutations("abcd"))))
NO_VOTERS = (0, 5, -1, True, False, None, "2", (2,), [2], 10 ** 59, 10 ** 60, 10 ** 99, PAIR)


def led_round(triples):
    """The answers to which each answer of some triples leads by these alone."""
    led = {answer: {answer} for triple in triples for answer in triple[:2]}
    for _ in led:
        for one, other, _ in triples:
            for found in led.values():
                if one in found:
                    found.add(other)
    return led


class AnotherTest(Calls):
    def test_for_two_voters(self):
        for agenda in [PAIR, CLAIM, EVEN, ORDERS, *all_agendas(("a", "b")), *list(all_agendas(("a", "b", "c")))[::5]]:
            some = any(is_rule_for(agenda, rule) and rule.followed() is None for rule in all_rules(agenda.issues, 2))
            self.assertIs(self.told(another, agenda, 2) is not None, some)

    def test_for_three_voters(self):
        for agenda in [PAIR, EVEN.only(("a", "b")), *all_agendas(("a", "b"))]:
            rules = all_rules(agenda.issues, 3)
            some = any(rule.followed() is None and is_rule_for(agenda, rule) for rule in rules)
            self.assertIs(another(agenda, 3) is not None, some)

    def test_just_the_numbers_of_voters(self):
        for agenda in small_agendas():
            blocked, summed = is_blocked(agenda), is_summed(agenda)
            self.assertIs(self.told(has_another, agenda), not blocked or summed)
            for voters, some in ((1, False), (2, not blocked), (3, not blocked or summed), (4, not blocked or summed)):
                self.check(agenda, voters, some)

    def check(self, agenda, voters, some):
        rule = another(agenda, voters)
        self.assertIs(rule is not None, some)
        if some:
            self.assertEqual((rule.voters, rule.issues, rule.followed()), (voters, agenda.issues, None))
            if len(agenda) ** voters <= 5000:
                self.assertTrue(is_rule_for(agenda, rule))

    def test_orders_leave_no_other_rule(self):
        self.assertIs(has_another(ORDERS), False)
        self.assertEqual([another(ORDERS, voters) for voters in (1, 2, 3, 4)], [None] * 4)

    def test_two_agendas_beside_one_another(self):
        self.assertIs(has_another(ORDERS + PAIR), True)
        self.assertEqual(another(ORDERS + EVEN, 2).followed(), None)

    def test_renamed_and_turned(self):
        for agenda in small_agendas()[::6]:
            issue = agenda.issues[-1]
            self.assertIs(has_another(agenda.renamed({issue: "aaa"})), has_another(agenda))
            self.assertIs(has_another(agenda.turned((issue,))), has_another(agenda))

    def test_what_is_not_true(self):
        # [0.18]: with a row more, or with an issue dropped, the other rule can be gone.
        found = [agenda for agenda in all_agendas(("a", "b", "c")) if has_another(agenda)]
        self.assertTrue(any(not has_another(agenda.with_row(row)) for agenda in found
                            for row in product((0, 1), repeat=3) if row not in agenda))
        more = ORDERS + Agenda.free(("x",))
        self.assertEqual([has_another(more), has_another(more.only(ORDERS.issues))], [True, False])
        # A rule for three voters that follows none, and none for two; and it is not orders alone that are blocked.
        self.assertEqual([another(EVEN, 2), another(EVEN, 3) is None, is_blocked(EVEN)], [None, False, True])

    def test_wrong_numbers(self):
        for agenda in (PAIR, ORDERS, EVEN):
            for voters in NO_VOTERS:
                self.refuse(InvalidNumber, another, agenda, voters, value=voters)
        self.refuse_wrong(InvalidNumber, another, CLAIM, 2, at=1, right=[1, 2], keeps="value")

    def test_six_issues(self):
        for agenda in (FREE, FULL, ORDERS + EVEN, Agenda(SIX, FREE.rows[1:]), Agenda(SIX, ((0,) * 6, (1,) * 6))):
            self.soon(has_another, agenda)
            for voters in (1, 2, 3, 4):
                self.soon(another, agenda, voters)
            found = self.soon(paper, agenda)
            self.assertIs(self.soon(is_paper, agenda, found), True)


class PaperTest(Calls):
    def test_papers(self):
        for agenda in [*small_agendas(), FULL, FOUR]:
            found = self.told(paper, agenda)
            self.assertEqual(found[0], "another" if has_another(agenda) else "one")
            self.assertIs(is_paper(agenda, found), True)
            if found[0] == "one":
                self.check_one(agenda, found)

    def check_one(self, agenda, found):
        _, triples, rows = found
        clashes = least_clashes(agenda)
        for one, other, clash in triples:
            self.assertTrue(clash in clashes and one in clash and contrary(other) in clash and one != contrary(other))
        self.assertEqual(set(map(len, led_round(triples).values())), {2 * len(agenda.issues)})
        self.assertTrue(all(row in agenda.rows for row in rows) and len(rows) == 3)
        self.assertNotIn(tuple(sum(column) % 2 for column in zip(*rows)), agenda.rows)

    def test_just_one_form(self):
        for agenda in small_agendas()[::5]:
            for other in small_agendas()[::5]:
                if has_another(agenda) is not has_another(other):
                    self.assertIs(is_paper(agenda, paper(other)), False)
        self.assertIs(is_paper(EVEN, paper(ORDERS)), False)
        self.assertIs(is_paper(ORDERS, paper(EVEN)), False)


class AnotherPaperTest(Calls):
    def test_every_other_rule(self):
        for agenda in (PAIR, CLAIM, EVEN, ORDERS, Agenda.free(("a",))):
            for rule in all_rules(agenda.issues, 2):
                right = rule.followed() is None and is_rule_for(agenda, rule)
                self.assertIs(is_paper(agenda, ("another", rule)), right)
        for voters in range(1, 5):
            self.assertIs(is_paper(CLAIM, ("another", Rule.of_voter(CLAIM.issues, voters, voters - 1))), False)
        self.assertIs(is_paper(EVEN, ("another", sum_rule(EVEN.issues, 4, (0, 1, 3)))), True)
        self.assertIs(is_paper(ORDERS, ("another", MOST)), False)

    def test_no_papers(self):
        for value in (("another",), ("another", BOTH, BOTH), ("another", BOTH, None, None), ("another", None),
                      ("another", MOST), ["another", BOTH],
                      ("one", BOTH), ("other", BOTH), (BOTH, "another"), BOTH, ("another", (BOTH,)), ("another", CLAIM),
                      ("another", {"p": (0, 1)}), None, 0, "another", (), {}, {"another": BOTH}, (None, BOTH),
                      ("another", BOTH.only(("p", "q"))), ("another", BOTH.renamed({"p": "r"})), (BOTH, BOTH)):
            self.assertIs(is_paper(CLAIM, value), False, value)
        for agenda in (PAIR, CLAIM, EVEN):
            self.judge_wrong(is_paper, agenda)

    def test_too_many_votes(self):
        for voters in (3, 4):
            for rule in (Rule.of_voter(SIX, voters, 0), sum_rule(SIX, voters, (0, 1, 2))):
                self.refuse(TooMany, is_paper, FREE, ("another", rule), limit=200000)
        rule = Rule.of_voter(SIX, 4, 0)
        for value in (("one", rule), ("another", rule, rule), ("another", rule.only(SIX[:5])), rule, ["another", rule],
                      ("one", rule, rule), ("another", (rule,)), ("another", None)):
            self.assertIs(is_paper(FREE, value), False)
        self.assertIs(self.soon(is_paper, FREE, ("another", another(FREE, 2))), True)
        self.refuse(InvalidAgenda, is_paper, None, ("another", rule))


class OnePaperTest(Calls):
    def judge(self, right, triples, rows=ROWS):
        self.assertIs(is_paper(ORDERS, ("one", triples, rows)), right, (triples, rows))

    def test_the_ring(self):
        self.judge(True, WEB)
        self.judge(True, WEB[::-1])
        self.judge(True, WEB * 3)
        self.judge(True, paper(ORDERS)[1] + WEB)

    def test_a_link_left_out(self):
        for at in range(6):
            self.judge(False, WEB[:at] + WEB[at + 1:])
        self.judge(False, ())
        self.judge(False, WEB[:1])

    def test_links_that_lead_from_one_answer_but_not_back(self):
        for answer in ORDERS.answers:
            self.judge(False, tuple(triple for triple in paper(ORDERS)[1] if triple[0] != answer))
            self.judge(False, tuple(triple for triple in paper(ORDERS)[1] if triple[1] != answer))

    def test_wrong_clashes(self):
        for at, (one, other, clash) in enumerate(WEB):
            wrong = HIGH if clash == LOW else LOW
            for shown in (wrong, (), clash[:2], clash[::-1], list(clash), clash + (("zz", 0),), None, 0, "",
                          (clash[0], clash[1], (clash[2][0], bool(clash[2][1]))), (one, contrary(other)), ORDERS):
                self.judge(False, WEB[:at] + ((one, other, shown),) + WEB[at + 1:])

    def test_a_clash_that_is_not_least(self):
        _, triples, rows = paper(FOUR)
        for at, (one, other, clash) in enumerate(triples):
            free = [answer for answer in FOUR.answers if answer[0] not in [issue for issue, _ in clash]]
            for more in free[:2]:
                wide = tuple(sorted((*clash, more)))
                self.assertEqual([is_clash(FOUR, wide), is_least_clash(FOUR, wide)], [True, False])
                changed = triples[:at] + ((one, other, wide),) + triples[at + 1:]
                self.assertIs(is_paper(FOUR, ("one", changed, rows)), False)
        self.assertIs(is_paper(FOUR, ("one", triples, rows)), True)

    def test_wrong_answers(self):
        one, other, clash = WEB[0]
        for triple in ((other, one, clash), (one, contrary(one), clash), (one, one, clash),
                       (one, contrary(other), clash),
                       (contrary(one), other, clash), (other, other, clash), (("zz", 0), other, clash),
                       (one, ("zz", 0), clash), (("ab", False), other, clash), (one, ("ac", False), clash),
                       (list(one), other, clash), (one, list(other), clash), (one, other), (one, other, clash, clash),
                       [one, other, clash], None, 0, "", (), {}, (None, other, clash), (one, None, clash), ORDERS):
            self.judge(False, WEB + (triple,))
            self.judge(False, (triple,) + WEB)
        for triples in (list(WEB), None, 0, "", {}, dict.fromkeys(WEB), ORDERS, WEB[0]):
            self.judge(False, triples)

    def test_the_same_answer_and_contrary(self):
        # The clash has the answer, and the contrary of the second one is this same answer: they are not different.
        for answer in LOW:
            self.judge(False, WEB + ((answer, contrary(answer), LOW),))

    def test_rows(self):
        for rows in product(ORDERS.rows, repeat=3):
            right = tuple(sum(column) % 2 for column in zip(*rows)) not in ORDERS.rows
            self.judge(right, WEB, rows)
        for rows in (ROWS[:2], ROWS + ROWS[:1], list(ROWS), (), None, 0, (ROWS[0], ROWS[1], [0, 1, 1]),
                     (ROWS[0], ROWS[1], (0, True, 1)), (ROWS[0], ROWS[1], (0, 1, 0)), (ROWS[0], ROWS[1], (0, 1)),
                     (ROWS[0], ROWS[1], None), ("rows", ROWS), ORDERS):
            self.judge(False, WEB, rows)

    def test_other_forms(self):
        for value in (("one", WEB), ("one", WEB, ROWS, ROWS), ("another", WEB, ROWS), ("one", ROWS, WEB), [WEB, ROWS],
                      ["one", WEB, ROWS], (WEB, ROWS), (None, WEB, ROWS), ("One", WEB, ROWS), {"one": WEB}):
            self.assertIs(is_paper(ORDERS, value), False)
        self.assertIs(is_paper(ORDERS.renamed({"ab": "aa"}), ("one", WEB, ROWS)), False)


class OnlySumsTest(Calls):
    def test_rules_for_blocked_agendas_are_sums(self):
        for agenda in (EVEN, ORDERS):
            for rule in all_rules(agenda.issues, 2):
                if is_rule_for(agenda, rule):
                    self.assertEqual(self.told(only_sums, agenda, rule), summed_voters(rule))
                    self.assertEqual(len(only_sums(agenda, rule)), 1)
        for summed in ((0,), (3,), (0, 1, 2), (1, 2, 3)):
            self.assertEqual(repr(self.told(only_sums, EVEN, sum_rule(EVEN.issues, 4, summed))), repr(summed))
        self.assertEqual(only_sums(ORDERS, Rule.of_voter(ORDERS.issues, 1, 0)), (0,))

    def test_all_rules_for_three_voters(self):
        # [0.14], told by all tables that are one for all issues: others are none for a blocked agenda.
        for table in product((0, 1), repeat=6):
            rule = Rule(3, {issue: (0, *table, 1) for issue in EVEN.issues})
            if is_rule_for(EVEN, rule):
                self.assertEqual(only_sums(EVEN, rule), summed_voters(rule))
                self.assertIn(summed_voters(rule), ((0,), (1,), (2,), (0, 1, 2)))

    def test_no_rule_for_the_agenda(self):
        for agenda, rule in ((ORDERS, MOST), (ORDERS, sum_rule(ORDERS.issues, 3, (0, 1, 2))),
                             (EVEN, Rule(2, {issue: (0, 0, 0, 1) for issue in EVEN.issues}))):
            with self.assertRaises(NoRow) as caught:
                only_sums(agenda, rule)
            self.assertIs(is_breach(agenda, rule, caught.exception.votes), True)

    def test_an_agenda_that_is_not_blocked(self):
        for agenda, rule in ((CLAIM, BOTH), (PAIR, Rule.of_voter(PAIR.issues, 2, 0)), (FREE, Rule.of_voter(SIX, 2, 0))):
            self.refuse(InvalidOperation, only_sums, agenda, rule)
        self.refuse(InvalidRule, only_sums, CLAIM, MOST)

    def test_too_many_votes_come_last(self):
        self.assertIs(is_blocked(FULL), True)
        for rule in (Rule.of_voter(SIX, 3, 0), sum_rule(SIX, 4, (0, 1, 3))):
            self.refuse(TooMany, only_sums, FULL, rule, limit=200000)
            self.refuse(InvalidOperation, only_sums, FREE, rule)
            self.refuse(InvalidRule, only_sums, FULL, rule.only(SIX[1:]))

    def test_a_rule_that_is_none_is_told_ahead_of_an_agenda_that_is_not_blocked(self):
        for agenda in (CLAIM, PAIR, Agenda.free(("a",)) + PAIR.renamed({"a": "x", "b": "y"})):
            self.assertIs(is_blocked(agenda), False)
            for rule in all_rules(agenda.issues, 2):
                if is_rule_for(agenda, rule):
                    self.refuse(InvalidOperation, only_sums, agenda, rule)
                else:
                    with self.assertRaises(NoRow) as caught:
                        only_sums(agenda, rule)
                    self.assertIs(is_breach(agenda, rule, caught.exception.votes), True)

    def test_wrong_rules(self):
        self.refuse_wrong(InvalidRule, only_sums, CLAIM, BOTH, at=1, right=[BOTH])
        self.refuse_wrong(InvalidRule, only_sums, ORDERS, MOST, at=1)


class WrongTest(Calls):
    def test_no_agenda(self):
        for call, more in ((has_another, ()), (another, (2,)), (paper, ()), (is_paper, (None,)), (only_sums, (BOTH,))):
            self.refuse_wrong(InvalidAgenda, call, CLAIM, *more, at=0, right=(PAIR, EVEN, CLAIM))
            self.refuse(InvalidAgenda, call, ORDERS.rows, *[None for _ in more])


class StatementsTest(Calls):
    def test_just_one_is_true(self):
        # [0.15], told by all rules for two voters and by the sum of three.
        for agenda in [*all_agendas(("a", "b")), *list(all_agendas(("a", "b", "c")))[::6]]:
            two = any(rule.followed() is None and is_rule_for(agenda, rule) for rule in all_rules(agenda.issues, 2))
            three = is_rule_for(agenda, sum_rule(agenda.issues, 3, (0, 1, 2)))
            self.assertIs(has_another(agenda), two or three)
            self.assertIs(two, not is_blocked(agenda))
            self.assertIs(paper(agenda)[0] == "one", len(links(agenda)) > 0 and not two and not three)


if __name__ == "__main__":
    unittest.main()
