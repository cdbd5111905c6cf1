"""Agendas of orders: point [14.1] and stage 14."""

import unittest
from itertools import combinations, permutations, product

from oneswill.base.agendas import Agenda
from oneswill.errors import InvalidOperation, InvalidRule, NoRow
from oneswill.link.links import is_blocked
from oneswill.more.orders import least_orders, order_of, order_outcome, orders_agenda, ring, row_of
from oneswill.rule.rules import Rule, is_rule
from oneswill.rule.same import way_rule
from oneswill.rule.sums import is_summed, sum_rule
from oneswill.rule.verdict import has_another
from tests.common import BOTH, CLAIM, MOST, ORDERS, Calls, deep, is_rule_for

ABC, FOUR = ("a", "b", "c"), ("a", "b", "c", "d")
SETS = (("a", "b"), ("x", "z"), ABC, ("k", "m", "z"), FOUR, ("b", "c", "x", "y"))
NO_THINGS = ((), ("a",), ("b", "a"), ("a", "a"), ("a", "b", "b"), ("a", "c", "b"), ("a", "b", "c", "d", "e"),
             ["a", "b"], ("a", "bb"), ("aa", "bb"), ("a", "B"), ("a", "1"), ("a", ""), ("a", 1), ("a", None), "ab",
             None, 2, {"a": 1, "b": 2}, (("a",), ("b",)), (ABC,), ORDERS, BOTH)
NO_ORDERS = (("a", "b"), ("a", "b", "c", "d"), ("a", "b", "b"), ("a", "a", "a"), ("a", "b", "x"), ["a", "b", "c"], (),
             "abc", ("abc",), ("a", "b", 1), ("a", "b", None), None, 0, {"a": 1, "b": 2, "c": 3}, (("a",), "b", "c"),
             ("A", "b", "c"), (1, 1, 1), ORDERS, (ABC,))
NO_VALUES = ((0, 0), (0, 0, 0, 0), (), [0, 0, 1], (0, True, 1), (False, 0, 1), (0, 2, 1), (0, -1, 1), (0, None, 1),
             (0, "1", 1), "001", None, 1, {0: 1}, (0, (0,), 1), ("a", "b", "c"), ORDERS, BOTH)


def issues_for(things):
    """The issues of the agenda of orders, told by the document's words alone."""
    return tuple(one + other for one, other in combinations(things, 2))


def row_for(things, order):
    """The row of an order, told by the document's words alone."""
    return tuple(int(order.index(one) < order.index(other)) for one, other in combinations(things, 2))


def goes_round(things, values, three):
    """Whether each of three things is ahead of the next one, and the last one of the first, by a row of values."""
    ahead = {(one, other) if value else (other, one) for (one, other), value in zip(combinations(things, 2), values)}
    return all(pair in ahead for pair in zip(three, three[1:] + three[:1]))


class AgendaTest(Calls):
    def test_the_agenda(self):
        for things in SETS:
            right = Agenda(issues_for(things), tuple(sorted(row_for(things, order) for order in permutations(things))))
            self.assertEqual(deep(self.told(orders_agenda, things)), deep(right))
        self.assertEqual([len(orders_agenda(FOUR[:many])) for many in (2, 3, 4)], [2, 6, 24])

    def test_one_persons_will(self):
        self.assertEqual(orders_agenda(("a", "b")), Agenda.free(("ab",)))
        for things in (ABC, FOUR):
            agenda = orders_agenda(things)
            self.assertEqual((is_blocked(agenda), is_summed(agenda), has_another(agenda)), (True, False, False))

    def test_no_things(self):
        calls = ((orders_agenda, ()), (row_of, (ABC,)), (order_of, ((0, 0, 0),)), (ring, ((0, 0, 0),)),
                 (order_outcome, (MOST, (ABC,) * 3)), (least_orders, (MOST,)))
        for call, more in calls:
            for things in NO_THINGS:
                self.refuse(InvalidOperation, call, things, *more)
            self.refuse_wrong(InvalidOperation, call, ABC, *more, at=0)
            # It is told ahead of what else is wrong.
            self.refuse(InvalidOperation, call, None, *[None for _ in more])


class OrderTest(Calls):
    def test_rows_of_orders(self):
        for things in SETS:
            for order in permutations(things):
                row = self.told(row_of, things, order)
                self.assertEqual(repr(row), repr(row_for(things, order)))
                self.assertEqual(repr(self.told(order_of, things, row)), repr(order))

    def test_values_that_are_no_row(self):
        for things in SETS:
            rows = orders_agenda(things).rows
            for values in product((0, 1), repeat=len(issues_for(things))):
                found, three = self.told(order_of, things, values), self.told(ring, things, values)
                if values in rows:
                    self.assertEqual(row_for(things, found), values)
                    self.assertIsNone(three)
                else:
                    self.assertIsNone(found)
                    self.assertEqual((type(three), len(three), len(set(three))), (tuple, 3, 3))
                    self.assertIs(goes_round(things, values, three), True)

    def test_no_orders(self):
        for order in NO_ORDERS:
            self.refuse(InvalidOperation, row_of, ABC, order)
        self.refuse(InvalidOperation, row_of, FOUR, ABC)
        self.refuse_wrong(InvalidOperation, row_of, ABC, ABC, at=1)
        self.refuse_wrong(InvalidOperation, row_of, ("a", "b"), ABC, at=1, right=[("b", "a")])

    def test_no_values(self):
        for call in (order_of, ring):
            for values in NO_VALUES:
                self.refuse(InvalidOperation, call, ABC, values)
            self.refuse(InvalidOperation, call, FOUR, (0, 0, 1))
            self.refuse_wrong(InvalidOperation, call, ABC, (0, 0, 0), at=1)


class OutcomeTest(Calls):
    def test_orders_of_two_voters(self):
        rule = Rule.of_voter(ORDERS.issues, 2, 1)
        for orders in product(permutations(ABC), repeat=2):
            self.assertEqual(self.told(order_outcome, ABC, rule, orders), orders[1])

    def test_most(self):
        for orders in product(permutations(ABC), repeat=3):
            rows = tuple(row_for(ABC, order) for order in orders)
            said = tuple(int(sum(column) >= 2) for column in zip(*rows))
            if said in ORDERS.rows:
                self.assertEqual(row_for(ABC, self.told(order_outcome, ABC, MOST, orders)), said)
            else:
                self.refuse(NoRow, order_outcome, ABC, MOST, orders, votes=rows)

    def test_two_things(self):
        rule = way_rule(("ab",), "both")
        self.assertEqual(order_outcome(("a", "b"), rule, (("a", "b"), ("b", "a"))), ("b", "a"))
        self.assertEqual(order_outcome(("a", "b"), rule, (("a", "b"), ("a", "b"))), ("a", "b"))

    def test_four_things_and_four_voters(self):
        issues = issues_for(FOUR)
        orders = (FOUR, FOUR[::-1], ("b", "a", "d", "c"), ("c", "a", "d", "b"))
        for voter in range(4):
            self.assertEqual(self.soon(order_outcome, FOUR, Rule.of_voter(issues, 4, voter), orders), orders[voter])
        # Both say only that a is ahead of c, so b would be ahead of a, and c ahead of b.
        orders, both = (("b", "a", "c", "d"), ("a", "c", "b", "d")), way_rule(issues, "both")
        rows = tuple(row_for(FOUR, order) for order in orders)
        self.refuse(NoRow, order_outcome, FOUR, both, orders, votes=rows)
        self.assertEqual(order_outcome(FOUR, both, (FOUR, FOUR[::-1])), FOUR[::-1])

    def test_too_few_and_too_many_orders(self):
        for orders in ((), (ABC,), (ABC,) * 2, (ABC,) * 4, [ABC] * 3, ABC, None, 0, "abc", {ABC: 1}, MOST):
            self.refuse(InvalidOperation, order_outcome, ABC, MOST, orders)
        for order in NO_ORDERS:
            for at in range(3):
                orders = [ABC, ABC[::-1], ABC]
                orders[at] = order
                self.refuse(InvalidOperation, order_outcome, ABC, MOST, tuple(orders))
        self.refuse_wrong(InvalidOperation, order_outcome, ABC, MOST, (ABC,) * 3, at=2)

    def test_rules_with_other_issues(self):
        for call, more in ((order_outcome, ((ABC,) * 3,)), (least_orders, ())):
            for rule in (BOTH, MOST.only(("ab", "ac")), MOST.renamed({"ab": "ad"}), way_rule(("ab",), "most")):
                self.refuse(InvalidRule, call, ABC, rule, *more)
                self.refuse(InvalidRule, call, FOUR, rule, *more)
            self.refuse_wrong(InvalidRule, call, ABC, MOST, *more, at=1)
            self.refuse(InvalidRule, call, ABC, None, *[None for _ in more])
            self.refuse(InvalidRule, call, FOUR, MOST, *more)


class LeastOrdersTest(Calls):
    def test_three_things(self):
        for table in product((0, 1), repeat=2):
            for other in product((0, 1), repeat=2):
                rule = Rule(2, {"ab": (0, *table, 1), "ac": (0, 0, 1, 1), "bc": (0, *other, 1)})
                right = None if is_rule_for(ORDERS, rule) else ABC
                self.assertEqual(self.told(least_orders, ABC, rule), right)
        self.assertEqual(least_orders(ABC, sum_rule(ORDERS.issues, 3, (0, 1, 2))), ABC)

    def test_two_things(self):
        for way in ("both", "either", "most", "sum"):
            self.assertIsNone(self.told(least_orders, ("a", "b"), way_rule(("ab",), way)))

    def test_the_first_three_of_four(self):
        issues = issues_for(FOUR)
        for changed in issues:
            tables = {issue: (0, 0, 1, 1) for issue in issues}
            tables[changed] = (0, 1, 0, 1)
            rule = Rule(2, tables)
            wrong = [three for three in combinations(FOUR, 3)
                     if not is_rule_for(orders_agenda(three), rule.only(issues_for(three)))]
            # The two things stand in two sets of three.
            self.assertEqual(len(wrong), 2)
            self.assertEqual(repr(self.told(least_orders, FOUR, rule)), repr(min(wrong)))

    def test_just_the_rules_have_none(self):
        issues, agenda = issues_for(FOUR), orders_agenda(FOUR)
        kept = [(0, 0, 1, 1), (0, 1, 0, 1)]
        for tables in list(product(kept, repeat=6))[::3]:
            rule = Rule(2, dict(zip(issues, tables)))
            self.assertIs(least_orders(FOUR, rule) is None, is_rule(agenda, rule))

    def test_four_voters(self):
        # The votes of all rows would be too many, those for three things are not.
        issues = issues_for(FOUR)
        for voter in range(4):
            self.assertIsNone(self.soon(least_orders, FOUR, Rule.of_voter(issues, 4, voter)))
        tables = {issue: Rule.of_voter(("a",), 4, 0)["a"] for issue in issues}
        tables["cd"] = (0,) * 15 + (1,)
        self.assertEqual(self.soon(least_orders, FOUR, Rule(4, tables)), ("a", "c", "d"))

    def test_not_of_an_agenda(self):
        self.refuse(InvalidOperation, least_orders, ORDERS, MOST)
        self.refuse(InvalidRule, least_orders, ABC, CLAIM)


if __name__ == "__main__":
    unittest.main()
