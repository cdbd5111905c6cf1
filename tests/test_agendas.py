"""Agendas and what they tell: points [0.2], [0.7] and stage 2."""

import unittest
from itertools import combinations, product

from oneswill.base import agendas
from oneswill.base.agendas import MAX_ISSUES, Agenda, contrary
from oneswill.errors import InvalidAgenda, InvalidOperation, UnknownName
from tests.common import CLAIM, EVEN, ORDERS, PAIR, SIX, shown, small_agendas, wrong_values


def is_made(issues, rows):
    """Whether there is an agenda of these."""
    try:
        Agenda(issues, rows)
    except InvalidAgenda:
        return False
    return True


class MadeTest(unittest.TestCase):
    def test_just_the_sets_of_rows_with_both_values(self):
        for issues in (("a",), ("a", "b"), ("a", "b", "c")):
            values = list(product((0, 1), repeat=len(issues)))
            for many in range(len(values) + 1):
                for rows in combinations(values, many):
                    both = all({0, 1} <= {row[at] for row in rows} for at in range(len(issues)))
                    self.assertEqual(is_made(issues, rows), both, (issues, rows))

    def test_how_many_issues(self):
        self.assertEqual(MAX_ISSUES, 6)
        for many in range(1, 9):
            issues = tuple("abcdefgh"[:many])
            self.assertEqual(is_made(issues, ((0,) * many, (1,) * many)), many <= 6, many)
        self.assertFalse(is_made((), ()))
        self.assertFalse(is_made((), ((),)))

    def test_issues_are_a_set_of_names(self):
        rows = ((0, 0), (1, 1))
        self.assertTrue(is_made(("a", "b"), rows))
        self.assertTrue(is_made(("ab", "b"), rows))
        self.assertTrue(is_made(("a", "abcdefgh"), rows))
        for issues in (("b", "a"), ("a", "a"), ["a", "b"], "ab", {"a": 0, "b": 1}, ("a", "B"), ("a", ""), ("a", "b1"),
                       ("a", "abcdefghi"), ("a", 1), ("a", None), ("a", ("b",)), (0, 1), ("a",), ("a", "b", "c"), PAIR):
            self.assertFalse(is_made(issues, rows), issues)

    def test_rows_are_a_set_of_values(self):
        self.assertTrue(is_made(("a", "b"), ((0, 1), (1, 0))))
        for rows in (((1, 0), (0, 1)), ((0, 1), (0, 1), (1, 0)), [(0, 1), (1, 0)], ([0, 1], [1, 0]), ((0, 1), [1, 0]),
                     ((0, 1), (1, 0), (1,)), ((0, 1), (1, 0, 0)), ((0,), (1,)), ((0, 1), (1, 2)), ((-1, 0), (0, 1)),
                     ((False, True), (True, False)), ((0, 1), (True, 0)), ((0, 1), (1, False)), ((0, 1), (1, None)),
                     ((0, 1), "10"), ("01", "10"), ((0, 1), 1), ((0, 1), None), (0, 1), "0110", {(0, 1): (1, 0)}, (),
                     ((),), None, PAIR):
            self.assertFalse(is_made(("a", "b"), rows), rows)

    def test_one_value_only(self):
        for rows in (((0, 0), (0, 1)), ((1, 0), (1, 1)), ((0, 1), (1, 1)), ((0, 0), (1, 0)), ((0, 1),)):
            self.assertFalse(is_made(("a", "b"), rows), rows)

    def test_wrong_values(self):
        for value in wrong_values():
            self.assertFalse(is_made(value, ((0,), (1,))) and value != ("zz",), value)
            self.assertFalse(is_made(("a",), value), value)
            self.assertFalse(is_made(value, value), value)

    def test_an_agenda_stays_what_it_is(self):
        for name in ("issues", "rows", "answers"):
            with self.assertRaises(AttributeError):
                setattr(PAIR, name, ())
        with self.assertRaises(TypeError):
            PAIR["a"] = 1
        self.assertEqual(shown(PAIR), repr((("a", "b"), ((0, 1), (1, 0)))))


class FreeTest(unittest.TestCase):
    def test_all_rows(self):
        for many in range(1, 7):
            agenda = Agenda.free(SIX[:many])
            self.assertEqual(agenda.issues, SIX[:many])
            self.assertEqual(agenda.rows, tuple(product((0, 1), repeat=many)))

    def test_wrong_issues(self):
        for issues in ((), ("b", "a"), ("a", "a"), ["a"], "a", SIX + ("g",), SIX + ("g", "h"), ("A",), (1,)):
            with self.assertRaises(InvalidAgenda):
                Agenda.free(issues)
        for value in wrong_values():
            if value != ("zz",):
                with self.assertRaises(InvalidAgenda):
                    Agenda.free(value)


class ToldTest(unittest.TestCase):
    def test_properties(self):
        self.assertEqual(CLAIM.issues, ("both", "p", "q"))
        self.assertEqual(CLAIM.rows, ((0, 0, 0), (0, 0, 1), (0, 1, 0), (1, 1, 1)))
        self.assertEqual(Agenda.free(("b",)).answers, (("b", 0), ("b", 1)))
        for agenda in small_agendas():
            answers = sorted((issue, value) for issue in agenda.issues for value in (0, 1))
            self.assertEqual(repr(agenda.answers), repr(tuple(answers)))

    def test_index_of_an_issue(self):
        self.assertEqual([ORDERS["ab"], ORDERS["ac"], ORDERS["bc"]], [0, 1, 2])
        self.assertEqual([Agenda.free(SIX)[issue] for issue in SIX], [0, 1, 2, 3, 4, 5])
        self.assertEqual([Agenda.free((issue,))[issue] for issue in SIX], [0, 0, 0, 0, 0, 0])
        for agenda in small_agendas():
            self.assertEqual(repr([agenda[issue] for issue in agenda.issues]), repr(list(range(len(agenda.issues)))))

    def test_no_issue(self):
        for agenda in (CLAIM, Agenda.free(("b",)), Agenda.free(SIX)):
            for value in [*wrong_values(), "g", "both ", ("both",), ["b"], ("a", 0)]:
                if value not in agenda.issues:
                    self.refuse_issue(agenda, value)

    def refuse_issue(self, agenda, value):
        with self.assertRaises(UnknownName) as caught:
            agenda[value]
        self.assertIs(type(caught.exception), UnknownName)
        self.assertEqual(repr(caught.exception.name), repr(value))
        self.assertNotIsInstance(caught.exception, ValueError)

    def test_no_issue_but_of_another_agenda(self):
        with self.assertRaises(UnknownName) as caught:
            CLAIM["r"]
        self.assertEqual((caught.exception.name, str(caught.exception)), ("r", "'r'"))

    def test_the_error_of_no_issue_shares_nothing(self):
        value = [["a"]]
        with self.assertRaises(UnknownName) as caught:
            PAIR[value]
        value[0].append("b")
        self.assertEqual(caught.exception.name, [["a"]])

    def test_rows_are_in_it(self):
        for values in product((0, 1), repeat=3):
            self.assertIs(values in CLAIM, values in ((0, 0, 0), (0, 0, 1), (0, 1, 0), (1, 1, 1)))

    def test_other_values_are_not_in_it(self):
        for value in ((False, True), (0, True), (False, 1), [0, 1], (0, 1, 0), (0,), (), "01", "a", ("a", "b")):
            self.assertIs(value in PAIR, False, value)
        for value in wrong_values():
            self.assertIs(value in PAIR, False, value)

    def test_len(self):
        self.assertEqual([len(PAIR), len(EVEN), len(ORDERS), len(Agenda.free(SIX))], [2, 4, 6, 64])

    def test_str(self):
        self.assertEqual(str(ORDERS), "agenda of 3 issues, 6 rows")
        self.assertEqual(str(Agenda.free(("a",))), "agenda of 1 issues, 2 rows")
        self.assertEqual(str(Agenda.free(SIX)), "agenda of 6 issues, 64 rows")

    def test_iteration(self):
        for agenda in small_agendas():
            self.assertEqual(list(agenda), sorted(agenda.rows))
            self.assertEqual(tuple(agenda), agenda.rows)
        once = iter(PAIR)
        self.assertEqual([next(once), next(once), next(once, None)], [(0, 1), (1, 0), None])

    def test_parts_of_the_interface_stand_in_the_class(self):
        for name in ("__init__", "__getitem__", "__contains__", "__len__", "__eq__", "__str__", "__iter__", "__add__",
                     "free", "issues", "rows", "answers", "with_row", "without_row", "turned", "renamed", "only",
                     "fixed"):
            self.assertIn(name, vars(Agenda))
        self.assertEqual([Agenda.__module__, contrary.__module__], [agendas.__name__, agendas.__name__])


class EqualTest(unittest.TestCase):
    def test_equal_agendas(self):
        again = Agenda(("a", "b"), ((0, 1), (1, 0)))
        self.assertIs(PAIR == again, True)
        self.assertIs(PAIR != again, False)

    def test_other_issues_or_rows(self):
        for other in (Agenda(("a", "c"), PAIR.rows), Agenda(PAIR.issues, ((0, 0), (1, 1))), Agenda.free(("a", "b")),
                      Agenda.free(("a",)), EVEN):
            self.assertIs(PAIR == other, False)
            self.assertIs(PAIR != other, True)
            self.assertIs(other == PAIR, False)

    def test_every_pair(self):
        made = small_agendas()[:120]
        for one in made:
            for other in made:
                same = (one.issues, one.rows) == (other.issues, other.rows)
                self.assertEqual((one == other, one != other), (same, not same))

    def test_every_value(self):
        agenda = Agenda.free(("a", "c"))
        for value in [*wrong_values(), agenda.issues, agenda.rows, (agenda.issues, agenda.rows), str(agenda)]:
            self.assertEqual([agenda == value, value == agenda], [False, False])
            self.assertEqual([agenda != value, value != agenda], [True, True])


class ContraryTest(unittest.TestCase):
    def test_contrary(self):
        self.assertEqual(repr(contrary(("p", 0))), "('p', 1)")
        self.assertEqual(repr(contrary(("abcdefgh", 1))), "('abcdefgh', 0)")
        self.assertEqual(contrary(contrary(("p", 1))), ("p", 1))

    def test_no_answer(self):
        for value in (("p", True), ("p", False), ("p", 2), ("p", -1), ("p",), ("p", 0, 1), ["p", 0], "p0", ("P", 0),
                      ("", 0), ("abcdefghi", 0), (0, "p"), ("p", None), ("p", "0"), (), None, 0, {"p": 0}, (("p", 0),)):
            with self.assertRaises(InvalidOperation):
                contrary(value)
        for value in wrong_values():
            if value != ("zz", 0):
                with self.assertRaises(InvalidOperation):
                    contrary(value)


if __name__ == "__main__":
    unittest.main()
