"""Values that several tests use."""

from itertools import combinations, product

from oneswill.base.agendas import Agenda
from oneswill.errors import InvalidAgenda

PAIR = Agenda(("a", "b"), ((0, 1), (1, 0)))
EVEN = Agenda(("a", "b", "c"), ((0, 0, 0), (0, 1, 1), (1, 0, 1), (1, 1, 0)))
ORDERS = Agenda(("ab", "ac", "bc"), ((0, 0, 0), (0, 0, 1), (0, 1, 1), (1, 0, 0), (1, 1, 0), (1, 1, 1)))
CLAIM = Agenda(("both", "p", "q"), ((0, 0, 0), (0, 0, 1), (0, 1, 0), (1, 1, 1)))
SIX = ("a", "b", "c", "d", "e", "f")


def nested(kind, depth):
    """A value of tuples, lists or dicts, so many of them one in another."""
    value = 1
    for _ in range(depth):
        value = {"tuple": (value,), "list": [value], "dict": {"a": value}}[kind]
    return value


def wrong_values():
    """Values of every kind that a caller may pass by mistake, made anew for each call."""
    return [
        0, 1, 2, -1, 10 ** 60 - 1, 10 ** 60, -(10 ** 60), 10 ** 99, True, False, None,
        "", "A", "1", "a b", " a", "a\n", "\n", "abcdefghi", "a" * 4000, "~" * 4000, "a_b", "zz",
        (None,), (True,), (2,), (0, 1, 0, 1, 0, 1, 0), ("a", "a"), ("b", "a"), ("zz",), (("zz", 0),), ("zz", 0),
        ("a", True), ("a", False), ("a", 2), ("a", -1), ("a", 10 ** 60), ("a", "0"), ("a", 0, 0), (0, "a"),
        ("A", 0), ("", 0), ("abcdefghi", 1), ["a", 0], (True, False), (0, True), (True, 0, 0), (0, None), ((0,), 1),
        [], [0], [0, 1], [0, 1, 0], ["a"], ["a", "b"], [("a", 0)], [(0, 1), (1, 0)], (["a"],), ([0, 1], [1, 0]),
        {0: "a"}, {"zz": "a"}, {"a": "A"}, {"a": 0}, {"a": None}, {True: "a"}, {None: "x"}, {("a",): "x"}, {"a": ["b"]},
        nested("tuple", 10), nested("list", 10), nested("dict", 10), PAIR, EVEN, CLAIM, (PAIR,), [CLAIM], {"a": PAIR},
        InvalidAgenda("no agenda"),
    ]


def all_agendas(issues):
    """Every agenda with these issues, told without the package's own check."""
    values = list(product((0, 1), repeat=len(issues)))
    for many in range(len(values) + 1):
        for rows in combinations(values, many):
            if all(len(set(column)) == 2 for column in zip(*rows)) and rows:
                yield Agenda(issues, rows)


def small_agendas():
    """All agendas with one or two issues, those with three, and a few with six."""
    found = [agenda for issues in (("b",), ("ab", "b"), ("ab", "b", "c")) for agenda in all_agendas(issues)]
    rows = tuple(values for values in product((0, 1), repeat=6) if sum(values) != 3)
    return found + [PAIR, EVEN, ORDERS, CLAIM, Agenda.free(SIX), Agenda(SIX, rows), Agenda(SIX, ((0,) * 6, (1,) * 6))]


def shown(agenda):
    """All that tells an agenda; True and 1, tuples and lists differ in it."""
    return repr((agenda.issues, agenda.rows))


def told(agenda):
    """The rows of an agenda as sets of answers, for which the order of the issues is nothing."""
    return {frozenset(zip(agenda.issues, row)) for row in agenda.rows}
