"""Parts and clashes: points [0.8] and [3.1] and stage 3."""

import unittest
from itertools import permutations, product

from oneswill.base.agendas import Agenda
from oneswill.base.clashes import by_clashes, clash_in, is_clash, is_least_clash, is_part, least_clashes, rows_with
from oneswill.errors import InvalidAgenda, InvalidOperation, InvalidPart
from tests.common import CLAIM, EVEN, ORDERS, PAIR, SIX, Calls, has, least, parts_of, small_agendas

FREE = Agenda.free(("a", "b", "c"))
# No parts of PAIR: out of order, an issue twice, another agenda's issue, True and False, lists, no tuples.
NO_PARTS = (
    (("b", 0), ("a", 0)), (("a", 0), ("a", 1)), (("a", 0), ("a", 0)), (("c", 0),), (("a", 0), ("c", 1)),
    (("a", True),), (("a", False),), (("a", 0), ("b", True)), (["a", 0],), [("a", 0)], [], ("a", 0), (("a",),),
    (("a", 2),), (("a", -1),), (("a", 0, 0),), (("a", None),), ((0, "a"),), (("a", "0"),), "a0", "", {}, {"a": 0},
    {("a", 0): 1}, None, 0, False, ((),), (("a", 0), None), (("a", 0), 1), (("a", 0), "b"), ((("a", 0),),),
    (("a", 0), ("b", 0), ("b", 1)), (("A", 0),), (("a", 10 ** 99),), (("a", [0]),), ((["a"], 0),),
)


class PartTest(Calls):
    def test_just_the_parts(self):
        for agenda in small_agendas():
            for part in parts_of(agenda)[:100]:
                self.assertIs(is_part(agenda, part), True)
        for agenda in (PAIR, CLAIM, Agenda.free(("a",))):
            right = set(parts_of(agenda))
            for many in range(4):
                for value in product(agenda.answers, repeat=many):
                    self.assertIs(is_part(agenda, value), value in right, value)

    def test_no_parts(self):
        for value in NO_PARTS:
            self.assertIs(is_part(PAIR, value), False, value)
            self.assertIs(is_clash(PAIR, value), False, value)
            self.assertIs(is_least_clash(PAIR, value), False, value)
        for judge in (is_part, is_clash, is_least_clash):
            self.judge_wrong(judge, CLAIM)
            self.judge_wrong(judge, Agenda.free(("zz",)), right=[(("zz", 0),)] if judge is is_part else ())

    def test_no_agenda(self):
        for call in (is_part, is_clash, is_least_clash, rows_with):
            self.refuse_wrong(InvalidAgenda, call, PAIR, (), at=0, right=(PAIR, EVEN, CLAIM))
            self.refuse(InvalidAgenda, call, None, None)


class RowsTest(Calls):
    def test_rows(self):
        for agenda in small_agendas():
            for part in parts_of(agenda)[:60]:
                rows = tuple(row for row in agenda.rows if has(agenda, row, part))
                self.assertEqual(repr(self.told(rows_with, agenda, part)), repr(rows))

    def test_the_empty_part(self):
        self.assertEqual(rows_with(ORDERS, ()), ORDERS.rows)

    def test_no_parts(self):
        for value in NO_PARTS:
            self.refuse(InvalidPart, rows_with, PAIR, value)
        self.refuse_wrong(InvalidPart, rows_with, PAIR, (), at=1)


class ClashTest(Calls):
    def test_clashes_and_least_ones(self):
        for agenda in small_agendas():
            right = least(agenda)
            for part in parts_of(agenda)[:200]:
                clash = not any(has(agenda, row, part) for row in agenda.rows)
                self.assertIs(is_clash(agenda, part), clash, part)
                self.assertIs(is_least_clash(agenda, part), part in right, part)

    def test_all_least_clashes(self):
        for agenda in small_agendas():
            self.assertEqual(repr(self.told(least_clashes, agenda)), repr(tuple(sorted(least(agenda)))))

    def test_the_empty_part_is_no_clash(self):
        self.assertIs(is_clash(PAIR, ()), False)
        self.assertIs(is_least_clash(PAIR, ()), False)

    def test_all_rows_have_no_clash(self):
        for many in range(1, 7):
            self.assertEqual(least_clashes(Agenda.free(SIX[:many])), ())
        self.assertIs(is_clash(FREE, (("a", 0), ("b", 0), ("c", 0))), False)

    def test_clashes_that_are_not_least(self):
        for part in ((("both", 1), ("p", 0), ("q", 0)), (("both", 1), ("p", 0), ("q", 1))):
            self.assertEqual([is_clash(CLAIM, part), is_least_clash(CLAIM, part)], [True, False])

    def test_least_clashes_have_two_answers_and_none_lies_in_another_one(self):
        for agenda in small_agendas():
            found = [set(clash) for clash in least_clashes(agenda)]
            self.assertTrue(all(len(clash) >= 2 for clash in found))
            self.assertFalse(any(one < other for one in found for other in found))

    def test_six_issues(self):
        rows = tuple(row for row in product((0, 1), repeat=6) if sum(row) in (0, 2, 3, 5))
        agenda = Agenda(SIX, rows)
        self.assertEqual(self.soon(least_clashes, agenda), tuple(sorted(least(agenda))))

    def test_no_agenda(self):
        for value in (None, PAIR.rows, (), "PAIR", [PAIR]):
            self.refuse(InvalidAgenda, least_clashes, value)
        self.refuse_wrong(InvalidAgenda, least_clashes, PAIR, at=0, right=(PAIR, EVEN, CLAIM))


class ClashInTest(Calls):
    def test_the_first_one(self):
        for agenda in small_agendas():
            clashes = sorted(least(agenda))
            for values in list(product((0, 1), repeat=len(agenda.issues)))[:40]:
                found = [clash for clash in clashes if has(agenda, values, clash)]
                self.assertEqual(self.told(clash_in, agenda, values), found[0] if found else None)
                # [3.1]: a row is told by its clashes.
                self.assertIs(values in agenda, found == [])

    def test_several_of_which_the_first_in_order_is_told(self):
        self.assertEqual(clash_in(CLAIM, (1, 0, 0)), (("both", 1), ("p", 0)))
        self.assertEqual(clash_in(CLAIM, (1, 1, 0)), (("both", 1), ("q", 0)))
        self.assertIsNone(clash_in(CLAIM, (0, 0, 0)))

    def test_no_values(self):
        for values in ((0,), (0, 0, 0), (), (0, True), (True, False), [0, 1], "01", None, 0, (0, 2), (0, -1), {0: 1}):
            self.refuse(InvalidOperation, clash_in, PAIR, values)
        self.refuse_wrong(InvalidOperation, clash_in, EVEN, (0, 0, 0), at=1)
        self.refuse_wrong(InvalidAgenda, clash_in, PAIR, (0, 0), at=0, right=(PAIR, EVEN, CLAIM))
        self.refuse(InvalidAgenda, clash_in, None, None)


class ByClashesTest(Calls):
    def test_an_agenda_is_told_by_its_least_clashes(self):
        for agenda in small_agendas():
            self.assertEqual(self.told(by_clashes, agenda.issues, least_clashes(agenda)), agenda)

    def test_any_order_and_repeated(self):
        for clashes in permutations(least_clashes(CLAIM)):
            self.assertEqual(by_clashes(CLAIM.issues, clashes + clashes[:2]), CLAIM)

    def test_greater_than_a_least_one(self):
        more = ((("a", 0), ("b", 0), ("c", 0)), (("a", 0), ("b", 0)))
        self.assertEqual(by_clashes(FREE.issues, more), by_clashes(FREE.issues, more[1:]))
        self.assertEqual(by_clashes(FREE.issues, more[:1]), FREE.without_row((0, 0, 0)))
        every = tuple(part for part in parts_of(CLAIM) if is_clash(CLAIM, part))
        self.assertEqual(by_clashes(CLAIM.issues, every), CLAIM)

    def test_no_clashes(self):
        self.assertEqual(by_clashes(SIX, ()), Agenda.free(SIX))
        self.assertEqual(by_clashes(("zz",), ()), Agenda.free(("zz",)))

    def test_no_such_agenda(self):
        for clashes in (((),), ((), (("a", 0), ("b", 0))), ((("a", 0),),),
                        ((("a", 0), ("b", 0)), (("a", 0), ("b", 1)))):
            self.refuse(InvalidAgenda, by_clashes, ("a", "b"), clashes)
        self.refuse(InvalidAgenda, by_clashes, ("a",), ((("a", 1),),))

    def test_no_issues(self):
        for issues in ((), SIX + ("g",), ("b", "a"), ("a", "a"), ["a"], "a", None, ("A",), PAIR):
            self.refuse(InvalidAgenda, by_clashes, issues, ())
            # They are told ahead of wrong clashes.
            self.refuse(InvalidAgenda, by_clashes, issues, None)
        self.refuse_wrong(InvalidAgenda, by_clashes, ("a",), (), at=0, right=[("zz",)])

    def test_no_parts(self):
        for value in NO_PARTS:
            self.refuse(InvalidPart, by_clashes, ("a", "b"), (value,))
            # Behind the empty part, with which there is no agenda: that error comes last.
            self.refuse(InvalidPart, by_clashes, ("a", "b"), ((), (("a", 0),), value))
        for clashes in ([], [(("a", 0),)], "", None, 0, {}, {(): 1}, (("a", 0), ("b", 0)), PAIR):
            self.refuse(InvalidPart, by_clashes, ("a", "b"), clashes)
        self.refuse_wrong(InvalidPart, by_clashes, ("a", "b"), (), at=1)

    def test_very_many(self):
        agenda = Agenda(SIX, ((0,) * 6, (1,) * 6))
        every = tuple(part for part in parts_of(agenda) if is_clash(agenda, part))
        self.assertEqual(self.soon(by_clashes, SIX, every * 20), agenda)


if __name__ == "__main__":
    unittest.main()
