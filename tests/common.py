"""Values and checks that several tests use."""

import time
import unittest
from itertools import combinations, product
from random import Random

from oneswill.base.agendas import Agenda
from oneswill.desk.desk import Desk
from oneswill.errors import InvalidAgenda
from oneswill.rule.rules import Rule
from oneswill.text.shell import Shell

PAIR = Agenda(("a", "b"), ((0, 1), (1, 0)))
EVEN = Agenda(("a", "b", "c"), ((0, 0, 0), (0, 1, 1), (1, 0, 1), (1, 1, 0)))
ORDERS = Agenda(("ab", "ac", "bc"), ((0, 0, 0), (0, 0, 1), (0, 1, 1), (1, 0, 0), (1, 1, 0), (1, 1, 1)))
CLAIM = Agenda(("both", "p", "q"), ((0, 0, 0), (0, 0, 1), (0, 1, 0), (1, 1, 1)))
SIX = ("a", "b", "c", "d", "e", "f")
BOTH = Rule(2, {"both": (0, 0, 0, 1), "p": (0, 0, 0, 1), "q": (0, 0, 0, 1)})
MOST = Rule(3, {issue: (0, 0, 0, 1, 0, 1, 1, 1) for issue in ("ab", "ac", "bc")})
# Far more than any call needs, and far less than a look at all that the call must not look at.
SOON = 10


def nested(kind, depth):
    """A value of tuples, lists or dicts, so many of them one in another."""
    value = 1
    for _ in range(depth):
        value = {"tuple": (value,), "list": [value], "dict": {"a": value}}[kind]
    return value


def wrong_values():
    """Values of every kind that a caller may pass by mistake, made anew for each call."""
    return [
        0, 1, 2, -1, 10 ** 60 - 1, 10 ** 60, -(10 ** 60), 10 ** 99, True, False, None,
        "", "A", "1", "a b", " a", "a\n", "\n", "abcdefghi", "a" * 4000, "~" * 4000, "a_b", "zz",
        (None,), (True,), (2,), (0, 1, 0, 1, 0, 1, 0), ("a", "a"), ("b", "a"), ("zz",), (("zz", 0),), ("zz", 0),
        ("a", True), ("a", False), ("a", 2), ("a", -1), ("a", 10 ** 60), ("a", "0"), ("a", 0, 0), (0, "a"),
        ("A", 0), ("", 0), ("abcdefghi", 1), ["a", 0], (True, False), (0, True), (True, 0, 0), (0, None), ((0,), 1),
        [], [0], [0, 1], [0, 1, 0], ["a"], ["a", "b"], [("a", 0)], [(0, 1), (1, 0)], (["a"],), ([0, 1], [1, 0]),
        {0: "a"}, {"zz": "a"}, {"a": "A"}, {"a": 0}, {"a": None}, {True: "a"}, {None: "x"}, {("a",): "x"}, {"a": ["b"]},
        nested("tuple", 10), nested("list", 10), nested("dict", 10), PAIR, EVEN, CLAIM, (PAIR,), [CLAIM], {"a": PAIR},
        Rule(1, {"zz": (0, 1)}), BOTH, (BOTH, BOTH), [BOTH], {"a": BOTH}, InvalidAgenda("no agenda"), Desk(CLAIM),
        (Desk(PAIR),), Shell("issues a\nrow 0\nrow 1", {}),
    ]


def all_agendas(issues):
    """Every agenda with these issues, told without the package's own check."""
    values = list(product((0, 1), repeat=len(issues)))
    for many in range(len(values) + 1):
        for rows in combinations(values, many):
            if all(len(set(column)) == 2 for column in zip(*rows)) and rows:
                yield Agenda(issues, rows)


def small_agendas():
    """All agendas with one or two issues, those with three, and a few with six."""
    found = [agenda for issues in (("b",), ("ab", "b"), ("ab", "b", "c")) for agenda in all_agendas(issues)]
    rows = tuple(values for values in product((0, 1), repeat=6) if sum(values) != 3)
    return found + [PAIR, EVEN, ORDERS, CLAIM, Agenda.free(SIX), Agenda(SIX, rows), Agenda(SIX, ((0,) * 6, (1,) * 6))]


def mixed_agendas(each=8):
    """So many agendas for each number of issues from one to six, with few, some and many rows; always the same."""
    found = []
    for many in range(1, 7):
        chance = Random(many)
        values = list(product((0, 1), repeat=many))
        for number in range(each):
            wanted = (3, len(values) // 2, len(values) - 2, len(values) // 4)[number % 4]
            rows = set(chance.sample(values, max(2, min(wanted, len(values)))))
            while not all(len(set(column)) == 2 for column in zip(*rows)):
                rows.add(chance.choice(values))
            found.append(Agenda(SIX[:many], tuple(sorted(rows))))
    return found


def shown(agenda):
    """All that tells an agenda; True and 1, tuples and lists differ in it."""
    return repr((agenda.issues, agenda.rows))


def deep(value):
    """All that tells a value: agendas and rules in it by what they keep, True and 1 apart, dicts in their order."""
    if isinstance(value, Agenda):
        return f"Agenda({value.issues!r}, {value.rows!r})"
    if isinstance(value, Rule):
        return f"Rule({value.voters!r}, {[(issue, value[issue]) for issue in value]!r})"
    if isinstance(value, Desk):
        kept = [(name, value[name]) for name in value]
        return f"Desk({deep(value.agenda)}, {deep(kept)}, {[(name, value.row_by(name)) for name in value.people]!r})"
    if isinstance(value, Shell):
        return f"Shell({deep(value.desk())})"
    if isinstance(value, dict):
        return "{" + ", ".join(f"{deep(key)}: {deep(item)}" for key, item in value.items()) + "}"
    if isinstance(value, (tuple, list)):
        return type(value).__name__ + "(" + ", ".join(deep(item) for item in value) + ")"
    return repr(value)


def subsets(items):
    """All sets of some of the items, perhaps of none."""
    return [chosen for many in range(len(items) + 1) for chosen in combinations(items, many)]


def parts_of(agenda):
    """All parts of answers of an agenda, told by the document's words alone."""
    choices = product((None, 0, 1), repeat=len(agenda.issues))
    return [tuple((issue, value) for issue, value in zip(agenda.issues, chosen) if value is not None)
            for chosen in choices]


def has(agenda, row, part):
    """Whether a row has a part."""
    return set(part) <= set(zip(agenda.issues, row))


def least(agenda):
    """The set of the least clashes, told by the document's words alone."""
    clashes = [set(part) for part in parts_of(agenda) if not any(has(agenda, row, part) for row in agenda.rows)]
    return {tuple(sorted(part)) for part in clashes if not any(other < part for other in clashes)}


def linked(agenda):
    """The set of the links, told by the document's words alone."""
    return {(one, (issue, 1 - value)) for clash in least(agenda) for one in clash for issue, value in clash
            if one != (issue, value)}


def outcome_of(rule, votes):
    """The outcome of votes, told by the document's words alone."""
    cases = list(product((0, 1), repeat=rule.voters))
    return tuple(rule[issue][cases.index(tuple(row[at] for row in votes))] for at, issue in enumerate(rule.issues))


def is_rule_for(agenda, rule):
    """Whether a rule is one for the agenda, told by the document's words alone."""
    return all(outcome_of(rule, votes) in agenda.rows for votes in product(agenda.rows, repeat=rule.voters))


def all_rules(issues, voters):
    """Every rule with these issues for so many voters."""
    tables = [(0, *middle, 1) for middle in product((0, 1), repeat=2 ** voters - 2)]
    return [Rule(voters, dict(zip(issues, chosen))) for chosen in product(tables, repeat=len(issues))]


class Calls(unittest.TestCase):
    """Checks of calls, each of which leaves what it was passed."""

    def refuse(self, error, call, *args, **kept):
        """The call raises just this error, which keeps just these values."""
        before = deep(args)
        with self.assertRaises(error, msg=before) as caught:
            call(*args)
        self.assertIs(type(caught.exception), error, before)
        self.assertEqual(deep(args), before)
        for name, value in kept.items():
            self.assertEqual(deep(getattr(caught.exception, name)), deep(value))

    def refuse_wrong(self, error, call, *args, at, right=(), keeps=None):
        """The call raises this error for each wrong value in the place of one argument, unless it is a right one."""
        for value in wrong_values():
            if deep(value) not in [deep(other) for other in right]:
                changed = [*args[:at], value, *args[at + 1:]]
                self.refuse(error, call, *changed, **({keeps: value} if keeps else {}))

    def judge_wrong(self, call, *args, right=()):
        """The call answers False for each wrong value as its last argument, unless it is a right one."""
        for value in wrong_values():
            if deep(value) not in [deep(other) for other in right]:
                before = deep(value)
                self.assertIs(call(*args, value), False, before)
                self.assertEqual(deep(value), before)

    def told(self, call, *args):
        """What the call returns: twice the same, in the place of which nothing changes."""
        before = deep(args)
        found = call(*args)
        self.assertEqual(deep(call(*args)), deep(found))
        self.assertEqual(deep(args), before)
        return found

    def soon(self, call, *args):
        """What the call returns soon."""
        begin = time.perf_counter()
        found = call(*args)
        self.assertLess(time.perf_counter() - begin, SOON)
        return found


def told(agenda):
    """The rows of an agenda as sets of answers, for which the order of the issues is nothing."""
    return {frozenset(zip(agenda.issues, row)) for row in agenda.rows}
