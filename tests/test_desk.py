"""A desk: point [16.1] and stage 16."""

import unittest
from itertools import product
from random import Random

from oneswill.base.agendas import Agenda
from oneswill.desk.desk import Desk
from oneswill.errors import Broken, InvalidAgenda, InvalidName, InvalidNumber, InvalidOperation, InvalidRule
from oneswill.errors import NoRow, NothingToUndo, TooMany, UnknownName, WillError
from oneswill.rule.rules import Rule, is_breach
from oneswill.rule.same import way_rule
from tests.common import BOTH, CLAIM, EVEN, MOST, ORDERS, PAIR, SIX, Calls, deep, is_rule_for, outcome_of, wrong_values

FREE = Agenda.free(("a", "b"))
HALF = Rule(2, {"a": (0, 0, 0, 1), "b": (0, 0, 1, 1)})
FIRST = Rule.of_voter(("a", "b"), 2, 0)
TABLES = ((0, 0, 0, 1), (0, 0, 1, 1), (0, 1, 0, 1), (0, 1, 1, 1))
VALUES = tuple(product((0, 1), repeat=6))
# So few rows that the votes of three voters are just few enough, and one row more.
MOST_ROWS = Agenda(SIX, VALUES[:57] + VALUES[-1:])
NO_NAMES = ("", "A", "a b", "abcdefghi", "a1", 1, None, True, ("a",), ["a"], {"a": 1}, CLAIM)


def state(desk):
    """All that tells a desk but what can be undone and done again."""
    return deep(desk)


def steps(desk):
    """How many calls can be undone, and how many can be done again."""
    twin = desk.twin()
    done = twin.undo(many=0)
    undone = 0
    while True:
        try:
            twin.redo()
        except NothingToUndo:
            return done, undone
        undone += 1


def claim_desk():
    """A desk with a rule and two voters."""
    desk = Desk(CLAIM)
    desk.keep("all", BOTH)
    desk.vote("ann", (0, 1, 0))
    desk.vote("bob", (1, 1, 1))
    return desk


class DeskTest(Calls):
    def refused(self, desk, error, call, *args, **kept):
        """The call raises just this error and leaves the desk as it was."""
        before, many = state(desk), steps(desk)
        self.refuse(error, getattr(desk, call), *args, **kept)
        self.assertEqual((state(desk), steps(desk)), (before, many))

    def wrong(self, desk, error, call, *args, at, right=(), keeps=None):
        """The call raises this error for each wrong value in the place of one argument."""
        before, many = state(desk), steps(desk)
        self.refuse_wrong(error, getattr(desk, call), *args, at=at, right=right, keeps=keeps)
        self.assertEqual((state(desk), steps(desk)), (before, many))

    def does(self, desk, call, *args):
        """The call returns None, can be undone and done again; nothing that it was passed changes."""
        before, passed, done = state(desk), deep(args), steps(desk)[0]
        self.assertIsNone(getattr(desk, call)(*args))
        after = state(desk)
        self.assertEqual((deep(args), steps(desk)), (passed, (done + 1, 0)))
        self.assertEqual((desk.undo(), state(desk), steps(desk)), (done, before, (done, 1)))
        self.assertEqual((desk.redo(), state(desk), steps(desk)), (done + 1, after, (done + 1, 0)))
        for name in desk:
            self.assertIs(is_rule_for(desk.agenda, desk[name]), True)
        for name in desk.people:
            self.assertIn(desk.row_by(name), desk.agenda)


class ReadTest(DeskTest):
    def test_a_new_desk(self):
        desk = Desk(CLAIM)
        self.assertEqual((desk.agenda, desk.names, desk.people, len(desk), list(desk)), (CLAIM, (), (), 0, []))
        self.assertEqual(str(desk), "desk of 3 issues, 0 rules, 0 voters")
        self.assertEqual(steps(desk), (0, 0))
        self.refuse_wrong(InvalidAgenda, Desk, CLAIM, at=0, right=(PAIR, EVEN, CLAIM))

    def test_what_it_has(self):
        desk = claim_desk()
        desk.keep("zed", BOTH)
        desk.keep("a", Rule.of_voter(CLAIM.issues, 1, 0))
        desk.vote("al", (0, 0, 0))
        self.assertEqual(repr((desk.names, desk.people)), "(('a', 'all', 'zed'), ('al', 'ann', 'bob'))")
        self.assertEqual((list(desk), tuple(desk), len(desk)), (["a", "all", "zed"], ("a", "all", "zed"), 3))
        self.assertEqual((desk["all"], desk["a"].voters), (BOTH, 1))
        self.assertEqual(repr(desk.row_by("ann")), "(0, 1, 0)")
        self.assertEqual(str(desk), "desk of 3 issues, 3 rules, 3 voters")
        self.assertEqual(["all" in desk, "zed" in desk, "ann" in desk, "both" in desk], [True, True, False, False])

    def test_names_of_nothing(self):
        desk = claim_desk()
        for value in ("ann", "al", "", "ALL", None, 0, True, ["all"], ("all",), {"all": 1}, CLAIM, desk, Desk(CLAIM)):
            self.assertIs(value in desk, False)
            self.refuse(UnknownName, desk.__getitem__, value, name=value)
        for value in ("all", "anna", "", None, 0, ["ann"], ("ann",), {"ann": 1}, BOTH):
            self.refused(desk, UnknownName, "row_by", value, name=value)
        self.refuse_wrong(UnknownName, desk.__getitem__, "all", at=0, keeps="name")
        self.wrong(desk, UnknownName, "row_by", "ann", at=0, keeps="name")
        self.judge_wrong(desk.__contains__)

    def test_equality(self):
        one, other = claim_desk(), Desk(CLAIM)
        self.assertEqual([one == other, one != other], [False, True])
        # Another history, and the names in another order.
        for name, row in (("zed", (0, 0, 0)), ("bob", (0, 0, 0)), ("bob", (1, 1, 1)), ("ann", (0, 1, 0))):
            other.vote(name, row)
        other.keep("all", BOTH)
        other.leave("zed")
        self.assertEqual([one == other, one != other, other == one], [True, False, True])
        for change in (lambda desk: desk.forget("all"), lambda desk: desk.keep("x", BOTH),
                       lambda desk: desk.leave("bob"), lambda desk: desk.vote("bob", (0, 0, 0)),
                       lambda desk: desk.turn(("p",)), lambda desk: desk.drop("q"),
                       lambda desk: desk.keep("all", Rule.of_voter(CLAIM.issues, 2, 0)),
                       lambda desk: desk.vote("c", (0, 0, 0))):
            twin = one.twin()
            change(twin)
            self.assertEqual([one == twin, one != twin], [False, True])
        for value in wrong_values() + [BOTH]:
            if deep(value) not in (deep(Desk(CLAIM)),):
                self.assertIs(one == value, False)
                self.assertIs(one != value, True)
        self.assertIs(Desk(CLAIM) == Desk(CLAIM), True)
        self.assertEqual([Desk(CLAIM) == Desk(PAIR), Desk(CLAIM) != Desk(CLAIM.turned(("p",)))], [False, True])
        self.assertIs(Desk(CLAIM) == CLAIM, False)

    def test_it_shares_nothing(self):
        desk = claim_desk()
        names = list(desk)
        names.append("x")
        self.assertEqual(desk.names, ("all",))
        # What is returned stays as it was when the desk goes on.
        agenda, people = desk.agenda, desk.people
        desk.turn(("p",))
        desk.leave("ann")
        self.assertEqual((agenda, people), (CLAIM, ("ann", "bob")))
        for name in desk:
            desk.forget(name)
        self.assertEqual(desk.names, ())

    def test_properties_cannot_be_assigned(self):
        for name in ("agenda", "names", "people"):
            with self.assertRaises(AttributeError):
                setattr(Desk(CLAIM), name, None)


class RulesTest(DeskTest):
    def test_keep_and_forget(self):
        desk = Desk(CLAIM)
        self.does(desk, "keep", "all", BOTH)
        self.does(desk, "keep", "one", Rule.of_voter(CLAIM.issues, 3, 2))
        self.assertEqual(desk.names, ("all", "one"))
        # In the place of another one, also of the same one.
        self.does(desk, "keep", "all", Rule.of_voter(CLAIM.issues, 2, 1))
        self.assertEqual(desk["all"].followed(), 1)
        self.does(desk, "keep", "all", desk["all"])
        self.does(desk, "forget", "all")
        self.assertEqual((desk.names, "all" in desk), (("one",), False))
        self.refused(desk, UnknownName, "forget", "all", name="all")

    def test_no_names(self):
        desk = claim_desk()
        for name in NO_NAMES:
            self.refused(desk, InvalidName, "keep", name, BOTH)
            self.refused(desk, UnknownName, "forget", name, name=name)
        self.wrong(desk, InvalidName, "keep", "all", BOTH, at=0, right=["zz"])
        self.wrong(desk, UnknownName, "forget", "all", at=0, keeps="name")
        self.refused(desk, InvalidName, "keep", None, None)
        self.refused(desk, UnknownName, "forget", "ann", name="ann")

    def test_no_rules(self):
        desk = claim_desk()
        for rule in (MOST, BOTH.only(("p", "q")), BOTH.renamed({"p": "x"}), None, CLAIM, {"p": (0, 1)}, "all", [BOTH]):
            self.refused(desk, InvalidRule, "keep", "all", rule)
        self.wrong(desk, InvalidRule, "keep", "all", BOTH, at=1, right=[BOTH])

    def test_a_rule_that_is_none_for_the_agenda(self):
        desk, either = claim_desk(), way_rule(CLAIM.issues, "either")
        with self.assertRaises(NoRow) as caught:
            desk.keep("all", either)
        self.assertIs(is_breach(CLAIM, either, caught.exception.votes), True)
        self.refused(desk, NoRow, "keep", "new", either)
        self.assertEqual((desk["all"], desk.names), (BOTH, ("all",)))

    def test_too_many_votes(self):
        desk = Desk(MOST_ROWS)
        self.does_soon(desk, Rule.of_voter(SIX, 3, 1))
        self.refused(desk, TooMany, "keep", "four", Rule.of_voter(SIX, 4, 1), limit=200000)
        # Also for a rule that is none.
        self.refused(desk, TooMany, "keep", "four", Rule(4, {issue: (0,) * 15 + (1,) for issue in SIX}), limit=200000)
        self.refused(desk, InvalidRule, "keep", "four", Rule.of_voter(SIX[1:], 4, 1))
        self.refused(desk, InvalidName, "keep", "FOUR", Rule.of_voter(SIX, 4, 1))

    def does_soon(self, desk, rule):
        self.assertIsNone(self.soon(desk.keep, "three", rule))
        self.assertEqual(desk["three"], rule)


class VotersTest(DeskTest):
    def test_vote_and_leave(self):
        desk = Desk(CLAIM)
        self.does(desk, "vote", "ann", (0, 1, 0))
        self.does(desk, "vote", "al", (0, 1, 0))
        self.does(desk, "vote", "ann", (1, 1, 1))
        self.assertEqual((desk.people, desk.row_by("ann"), desk.row_by("al")), (("al", "ann"), (1, 1, 1), (0, 1, 0)))
        self.does(desk, "vote", "ann", (1, 1, 1))
        self.does(desk, "leave", "al")
        self.assertEqual(desk.people, ("ann",))
        self.refused(desk, UnknownName, "leave", "al", name="al")
        self.refused(desk, UnknownName, "row_by", "al", name="al")

    def test_no_names(self):
        desk = claim_desk()
        for name in NO_NAMES:
            self.refused(desk, InvalidName, "vote", name, (0, 0, 0))
            self.refused(desk, UnknownName, "leave", name, name=name)
        self.wrong(desk, InvalidName, "vote", "ann", (0, 0, 0), at=0, right=["zz"])
        self.wrong(desk, UnknownName, "leave", "ann", at=0, keeps="name")
        self.refused(desk, InvalidName, "vote", None, None)
        self.refused(desk, UnknownName, "leave", "all", name="all")

    def test_no_rows(self):
        desk = claim_desk()
        for row in ((1, 0, 0), (0, 0), (0, 0, 0, 0), (0, 0, True), [0, 0, 0], "000", 0, None, ((0, 0, 0),), (), CLAIM):
            self.refused(desk, InvalidOperation, "vote", "ann", row)
            self.refused(desk, InvalidOperation, "vote", "new", row)
            self.refused(desk, InvalidOperation, "take", row)
        self.wrong(desk, InvalidOperation, "vote", "ann", (0, 0, 0), at=1)
        self.wrong(desk, InvalidOperation, "take", (0, 0, 0), at=0)

    def test_a_name_for_a_rule_and_a_voter(self):
        desk = claim_desk()
        self.does(desk, "vote", "all", (0, 0, 1))
        self.assertEqual((desk["all"], desk.row_by("all")), (BOTH, (0, 0, 1)))
        self.does(desk, "leave", "all")
        self.assertIn("all", desk)


class AgendaTest(DeskTest):
    def test_add(self):
        desk = Desk(CLAIM)
        self.does(desk, "add", (1, 0, 0))
        self.assertEqual(desk.agenda, CLAIM.with_row((1, 0, 0)))
        for row in ((0, 0, 0), (1, 0, 0), (0, 0), (0, 0, 0, 1), (1, 0, True), [1, 0, 1], None, 5, "101", CLAIM):
            self.refused(desk, InvalidOperation, "add", row)
        self.wrong(desk, InvalidOperation, "add", (1, 0, 1), at=0)

    def test_a_row_more_can_break_a_rule(self):
        agenda, more = Agenda(("a", "b", "c"), ((0, 0, 0), (0, 1, 1), (1, 1, 1))), (1, 0, 1)
        both = way_rule(agenda.issues, "both")
        desk = Desk(agenda)
        desk.keep("all", both)
        desk.keep("a", Rule.of_voter(agenda.issues, 3, 0))
        before, many = state(desk), steps(desk)
        with self.assertRaises(Broken) as caught:
            desk.add(more)
        self.assertEqual((type(caught.exception), caught.exception.which), (Broken, "all"))
        self.assertIs(is_breach(agenda.with_row(more), both, caught.exception.votes), True)
        self.assertEqual((state(desk), steps(desk)), (before, many))
        # Rules that stay such do not keep a row out.
        self.does(desk, "add", (0, 0, 1))
        desk.forget("all")
        self.does(desk, "add", more)

    def test_take(self):
        desk = Desk(FREE)
        self.does(desk, "take", (0, 1))
        self.assertEqual(desk.agenda.rows, ((0, 0), (1, 0), (1, 1)))
        self.does(desk, "take", (1, 0))
        # Without another one there is no agenda.
        self.refused(desk, InvalidAgenda, "take", (0, 0))
        self.refused(desk, InvalidOperation, "take", (1, 0))

    def test_a_row_that_a_voter_has_handed_in(self):
        desk = Desk(FREE)
        desk.vote("ann", (0, 1))
        self.refused(desk, InvalidOperation, "take", (0, 1))
        self.does(desk, "take", (1, 0))
        desk.leave("ann")
        self.does(desk, "take", (0, 1))
        # That there is no agenda without it is told first, and a broken rule behind it.
        desk.vote("ann", (0, 0))
        self.refused(desk, InvalidAgenda, "take", (0, 0))
        half = Desk(FREE)
        half.keep("half", HALF)
        half.vote("ann", (0, 1))
        self.refused(half, InvalidOperation, "take", (0, 1))

    def test_rules_that_break(self):
        # The first by its name is told, with any votes that show it.
        for names, which in ((("a", "b"), "a"), (("b", "a"), "b"), (("c", "b"), "c")):
            desk = Desk(FREE)
            desk.keep(names[0], HALF)
            desk.keep(names[1], FIRST)
            desk.keep("zed", HALF)
            before, many = state(desk), steps(desk)
            with self.assertRaises(Broken) as caught:
                desk.take((0, 1))
            self.assertIs(type(caught.exception), Broken)
            self.assertEqual(caught.exception.which, which)
            self.assertIs(is_breach(FREE.without_row((0, 1)), HALF, caught.exception.votes), True)
            self.assertEqual((state(desk), steps(desk)), (before, many))
            desk.forget(names[0])
            desk.forget("zed")
            self.does(desk, "take", (0, 1))

    def test_too_many_votes(self):
        desk = Desk(MOST_ROWS)
        three, one = Rule.of_voter(SIX, 3, 1), Rule.of_voter(SIX, 1, 0)
        desk.keep("b", three)
        self.refused(desk, TooMany, "add", VALUES[60], limit=200000)
        self.refused(desk, InvalidOperation, "add", VALUES[0])
        # A rule ahead of it that is none for the new agenda is told, one behind it is not looked at.
        desk.keep("c", one)
        self.refused(desk, TooMany, "add", VALUES[60], limit=200000)
        desk.forget("b")
        self.does(desk, "add", VALUES[60])
        rows = [row for row in VALUES if row[:4] != (1, 1, 1, 0) and (row[:2], row[3:]) != ((1, 1), (1, 1, 0))]
        agenda, both = Agenda(SIX, tuple(rows)), way_rule(SIX, "both")
        self.assertEqual(len(rows), 58)
        for name, error in (("a", Broken), ("c", TooMany)):
            desk = Desk(agenda)
            desk.keep("b", three)
            desk.keep(name, both)
            self.refused(desk, error, "add", (1, 1, 1, 0, 1, 1))
            desk.forget("b")
            self.refused(desk, Broken, "add", (1, 1, 1, 0, 1, 1), which=name)

    def test_drop(self):
        desk = claim_desk()
        self.does(desk, "drop", "both")
        self.assertEqual((desk.agenda, desk["all"]), (CLAIM.only(("p", "q")), BOTH.only(("p", "q"))))
        self.assertEqual((desk.row_by("ann"), desk.row_by("bob")), ((1, 0), (1, 1)))
        for issue in ("both", "all", "", None, 0, ["p"], ("p",), {"p": 1}, True, CLAIM):
            self.refused(desk, UnknownName, "drop", issue, name=issue)
        self.wrong(desk, UnknownName, "drop", "p", at=0, keeps="name")
        self.does(desk, "drop", "p")
        self.assertEqual((desk.agenda, desk.row_by("ann"), desk["all"]), (Agenda.free(("q",)), (0,), BOTH.only(("q",))))
        self.refused(desk, InvalidOperation, "drop", "q")
        self.refused(desk, UnknownName, "drop", "p", name="p")

    def test_turn(self):
        desk = claim_desk()
        self.does(desk, "turn", ("p",))
        self.assertEqual((desk.agenda, desk["all"]), (CLAIM.turned(("p",)), BOTH.turned(("p",))))
        self.assertEqual((desk.row_by("ann"), desk.row_by("bob")), ((0, 0, 0), (1, 0, 1)))
        self.does(desk, "turn", ("both", "p", "q"))
        self.assertEqual(desk.row_by("ann"), (1, 1, 1))
        before = state(desk)
        self.does(desk, "turn", ())
        self.assertEqual(state(desk), before)
        for issues in (("q", "p"), ("p", "p"), ["p"], ("r",), "p", ("p", 1), None, {"p": 1}, CLAIM, 0):
            self.refused(desk, InvalidOperation, "turn", issues)
        self.wrong(desk, InvalidOperation, "turn", ("p",), at=0, right=[()])

    def test_drop_and_turn_look_at_no_votes(self):
        desk = Desk(MOST_ROWS)
        desk.keep("three", Rule.of_voter(SIX, 3, 1))
        self.soon(desk.turn, ("a", "c"))
        self.soon(desk.drop, "f")
        self.assertEqual((desk["three"].issues, desk["three"].followed()), (SIX[:-1], 1))


class OutcomeTest(DeskTest):
    def test_outcomes(self):
        desk = claim_desk()
        desk.vote("cid", (0, 0, 1))
        desk.keep("four", Rule.of_voter(CLAIM.issues, 4, 2))
        before = state(desk)
        for people in product(("ann", "bob", "cid"), repeat=2):
            votes = tuple(desk.row_by(name) for name in people)
            self.assertEqual(repr(self.told(desk.outcome, "all", people)), repr(outcome_of(BOTH, votes)))
        self.assertEqual(desk.outcome("all", ("ann", "ann")), (0, 1, 0))
        self.assertEqual(desk.outcome("four", ("ann", "ann", "cid", "bob")), (0, 0, 1))
        self.assertEqual((state(desk), steps(desk)), (before, (5, 0)))

    def test_no_rule(self):
        desk = claim_desk()
        for name in ("ann", "none", "", None, 0, ["all"], ("all",), {"all": 1}):
            self.refused(desk, UnknownName, "outcome", name, ("ann", "bob"), name=name)
            self.refused(desk, UnknownName, "outcome", name, None, name=name)
        self.wrong(desk, UnknownName, "outcome", "all", ("ann", "bob"), at=0, keeps="name")
        # It is told ahead of those who are no voters.
        self.refused(desk, UnknownName, "outcome", "none", ("eve", "ann"), name="none")

    def test_no_voters(self):
        desk = claim_desk()
        for people in (("ann",), (), ("ann", "bob", "ann"), ["ann", "bob"], "ann", None, {"ann": 1, "bob": 2}, 2,
                       CLAIM):
            self.refused(desk, InvalidOperation, "outcome", "all", people)
        # The first one that is none is told, also where they are too few or too many.
        for people, name in ((("ann", "eve"), "eve"), (("eve", "adam"), "eve"), (("adam", "eve"), "adam"),
                             (("eve",), "eve"), (("ann", "bob", "eve"), "eve"), (("ann", "all"), "all"),
                             ((1, "ann"), 1), ((["ann"], "x"), ["ann"]), (("ann", None), None),
                             (("bob", ("ann",)), ("ann",)), (("ann", ""), ""), ((True,), True)):
            self.refused(desk, UnknownName, "outcome", "all", people, name=name)
        for value in wrong_values():
            error = UnknownName if isinstance(value, tuple) and value else InvalidOperation
            self.refused(desk, error, "outcome", "all", value)


class UndoTest(DeskTest):
    def test_undo_and_redo(self):
        desk, states = Desk(CLAIM), []
        calls = (("keep", "all", BOTH), ("vote", "ann", (0, 1, 0)), ("vote", "bob", (1, 1, 1)), ("drop", "both"),
                 ("turn", ("p",)), ("forget", "all"), ("leave", "bob"), ("take", (1, 1)), ("add", (1, 1)))
        for call, *args in calls:
            states.append(state(desk))
            getattr(desk, call)(*args)
        states.append(state(desk))
        many = len(states) - 1
        self.assertEqual(steps(desk), (many, 0))
        for back in range(many + 1):
            self.assertEqual((desk.undo(many=back), state(desk)), (many - back, states[many - back]))
            self.assertEqual(steps(desk), (many - back, back))
            self.refuse(NothingToUndo, lambda: desk.undo(many=many - back + 1), many=many - back + 1)
            self.refuse(NothingToUndo, lambda: desk.redo(many=back + 1), many=back + 1)
            self.assertEqual((desk.redo(many=back), state(desk)), (many, states[many]))

    def test_none_and_more_than_there_are(self):
        desk = claim_desk()
        self.assertEqual((desk.undo(many=0), desk.redo(many=0), desk.undo(), desk.redo(), desk.undo(many=3)),
                         (3, 3, 2, 3, 0))
        self.assertEqual((desk.undo(many=0), desk.redo(many=0)), (0, 0))
        self.refuse(NothingToUndo, desk.undo, many=1)
        self.refuse(NothingToUndo, lambda: desk.undo(many=10 ** 60 - 1), many=10 ** 60 - 1)
        self.assertEqual((desk, steps(desk)), (Desk(CLAIM), (0, 3)))
        self.refuse(NothingToUndo, lambda: desk.redo(many=4), many=4)
        self.assertEqual(desk.redo(many=3), 3)
        self.refuse(NothingToUndo, desk.redo, many=1)
        self.assertEqual(desk, claim_desk())

    def test_no_numbers(self):
        desk = claim_desk()
        desk.undo()
        before = state(desk)
        for number in (-1, True, False, None, "1", (1,), [1], {"a": 1}, 10 ** 60, -(10 ** 60), CLAIM):
            self.refuse(InvalidNumber, lambda: desk.undo(many=number), value=number)
            self.refuse(InvalidNumber, lambda: desk.redo(many=number), value=number)
        for value in wrong_values():
            if deep(value) not in ("0", "1", "2", deep(10 ** 60 - 1)):
                self.refuse(InvalidNumber, lambda: desk.undo(many=value), value=value)
                self.refuse(InvalidNumber, lambda: desk.redo(many=value), value=value)
        self.assertEqual((state(desk), steps(desk)), (before, (2, 1)))

    def test_keywords(self):
        for call in (claim_desk().undo, claim_desk().redo):
            with self.assertRaises(TypeError):
                call(1)

    def test_a_new_call_ends_redoing(self):
        for call, args in (("keep", ("all", BOTH)), ("forget", ("all",)), ("vote", ("ann", (0, 0, 0))),
                           ("leave", ("ann",)), ("add", ((1, 0, 0),)), ("take", ((0, 0, 1),)), ("drop", ("both",)),
                           ("turn", ((),))):
            desk = claim_desk()
            if call in ("add", "take"):
                desk.forget("all")
            desk.vote("zed", (0, 0, 0))
            done = desk.undo()
            getattr(desk, call)(*args)
            self.assertEqual(steps(desk), (done + 1, 0))
            self.refuse(NothingToUndo, desk.redo, many=1)

    def test_a_refused_call_does_not_end_redoing(self):
        desk = claim_desk()
        desk.undo(many=2)
        for call, args in (("keep", ("all", MOST)), ("forget", ("x",)), ("vote", ("ann", None)), ("leave", ("x",)),
                           ("add", ((0, 0, 0),)), ("take", ((1, 0, 0),)), ("drop", ("x",)), ("turn", (None,))):
            with self.assertRaises((WillError, KeyError)):
                getattr(desk, call)(*args)
            self.assertEqual(steps(desk), (1, 2))
        desk.undo(many=0)
        desk.twin().undo()
        desk.during(lambda same: same.vote("eve", (0, 0, 0)))
        self.assertEqual(desk.redo(many=2), 3)

    def test_long_histories(self):
        desk = Desk(CLAIM)
        for number in range(5000):
            desk.vote("ann", CLAIM.rows[number % 4])
        self.assertEqual(self.soon(lambda: desk.undo(many=4999)), 1)
        self.assertEqual(self.soon(lambda: desk.redo(many=4998)), 4999)
        self.assertEqual(self.soon(desk.twin), desk)
        self.assertEqual(self.soon(lambda: [desk.during(lambda same: same.undo(many=4000)) for _ in range(100)][0]),
                         999)
        self.assertEqual((desk.undo(many=0), desk.redo()), (4999, 5000))


class BlockTest(DeskTest):
    def test_a_block(self):
        desk = claim_desk()
        desk.undo()
        before = state(desk)
        with desk.trial() as same:
            self.assertIs(same, desk)
            desk.vote("zed", (0, 0, 0))
            desk.drop("both")
            self.assertEqual((desk.people, steps(desk)), (("ann", "zed"), (4, 0)))
        self.assertEqual((state(desk), steps(desk)), (before, (2, 1)))
        self.assertEqual(desk.redo(), 3)

    def test_undoing_within_a_block(self):
        desk = claim_desk()
        desk.undo()
        before = state(desk)
        with desk.trial():
            self.assertEqual(desk.redo(), 3)
            self.assertEqual(desk.undo(many=3), 0)
            desk.vote("new", (0, 0, 0))
        self.assertEqual((state(desk), steps(desk)), (before, (2, 1)))
        desk.redo()
        self.assertEqual(desk, claim_desk())

    def test_blocks_that_end_by_an_error(self):
        either = way_rule(CLAIM.issues, "either")
        calls = ((InvalidName, lambda desk: desk.vote("", (0, 0, 0))), (InvalidRule, lambda desk: desk.keep("a", MOST)),
                 (NoRow, lambda desk: desk.keep("a", either)), (UnknownName, lambda desk: desk.leave("x")),
                 (InvalidOperation, lambda desk: desk.take((0, 1, 0))), (NothingToUndo, lambda desk: desk.undo(many=9)),
                 (InvalidNumber, lambda desk: desk.undo(many=-1)), (Broken, lambda desk: desk.take((0, 0, 0))),
                 (ZeroDivisionError, lambda desk: 1 // 0), (KeyboardInterrupt, self.interrupt))
        for error, call in calls:
            desk = claim_desk()
            desk.undo()
            desk.redo()
            before = state(desk)
            with self.assertRaises(error):
                with desk.trial():
                    desk.vote("zed", (0, 0, 1))
                    call(desk)
            self.assertEqual((state(desk), steps(desk)), (before, (3, 0)))
            with self.assertRaises(error) as caught:
                desk.during(lambda same: (same.leave("bob"), call(same)))
            self.assertIs(type(caught.exception), error)
            self.assertEqual((state(desk), steps(desk)), (before, (3, 0)))

    def interrupt(self, desk):
        raise KeyboardInterrupt

    def test_blocks_within_blocks(self):
        desk = claim_desk()
        first = state(desk)
        with desk.trial():
            desk.vote("one", (0, 0, 0))
            second = state(desk)
            with desk.trial() as same:
                same.undo(many=2)
                desk.drop("p")
                with self.assertRaises(ValueError):
                    with desk.trial():
                        desk.turn(("q",))
                        raise ValueError
                self.assertEqual(desk.agenda.issues, ("both", "q"))
            self.assertEqual((state(desk), steps(desk)), (second, (4, 0)))
            self.assertEqual(desk.undo(), 3)
        self.assertEqual((state(desk), steps(desk)), (first, (3, 0)))

    def test_one_block_several_times(self):
        desk = Desk(CLAIM)
        block = desk.trial()
        desk.vote("ann", (0, 0, 0))
        for _ in range(2):
            with block:
                desk.vote("bob", (0, 0, 0))
                with block:
                    desk.leave("ann")
                self.assertEqual(desk.people, ("ann", "bob"))
            self.assertEqual((desk.people, steps(desk)), (("ann",), (1, 0)))

    def test_a_block_begins_with_its_first_line(self):
        desk = Desk(CLAIM)
        block = desk.trial()
        desk.vote("ann", (0, 0, 0))
        with block as same:
            same.vote("bob", (0, 0, 0))
        self.assertEqual(desk.people, ("ann",))

    def test_during(self):
        desk = claim_desk()
        before = state(desk)
        self.assertEqual(desk.during(lambda same: (same.drop("both"), same.agenda.issues)), (None, ("p", "q")))
        self.assertIs(desk.during(lambda same: same is desk), True)
        self.assertIsNone(desk.during(lambda same: None))
        self.assertEqual(desk.during(lambda same: same.during(lambda again: again.undo(many=2)) + same.undo()), 3)
        self.assertEqual((state(desk), steps(desk)), (before, (3, 0)))

    def test_a_twin_of_a_block_stays(self):
        desk = claim_desk()
        with desk.trial():
            desk.vote("zed", (0, 0, 0))
            twin = desk.twin()
        self.assertEqual((twin.people, steps(twin)), (("ann", "bob", "zed"), (4, 0)))
        self.assertEqual(desk.people, ("ann", "bob"))
        with twin.trial():
            twin.leave("zed")
        self.assertEqual(twin.people, ("ann", "bob", "zed"))


class TwinTest(DeskTest):
    def test_a_twin_goes_its_own_way(self):
        desk = claim_desk()
        desk.undo()
        twin = desk.twin()
        self.assertIsNot(twin, desk)
        self.assertEqual((twin, steps(twin)), (desk, (2, 1)))
        before = state(desk)
        twin.redo()
        twin.drop("both")
        twin.undo(many=4)
        self.assertEqual((state(desk), steps(desk)), (before, (2, 1)))
        other = desk.twin()
        desk.vote("ann", (0, 0, 0))
        desk.undo(many=3)
        self.assertEqual((state(other), steps(other)), (before, (2, 1)))
        self.assertEqual(other.redo(), 3)
        self.assertEqual(other, claim_desk())


class RandomTest(DeskTest):
    """Desks with calls by chance, always the same, beside a plain account of what the document says."""

    def test_by_chance(self):
        for number in range(40):
            chance = Random(number)
            desk = Desk(chance.choice((PAIR, CLAIM, EVEN, ORDERS, FREE)))
            account = [[(desk.agenda, {}, {})], 0]
            for _ in range(60):
                self.step(desk, account, chance)

    def step(self, desk, account, chance):
        history, at = account
        agenda, rules, rows = history[at]
        if chance.random() < 0.25:
            many = chance.randrange(4)
            call, there = chance.choice((("undo", at), ("redo", len(history) - 1 - at)))
            if many > there:
                self.refuse(NothingToUndo, lambda: getattr(desk, call)(many=many), many=many)
            else:
                account[1] = at - many if call == "undo" else at + many
                self.assertEqual(getattr(desk, call)(many=many), account[1])
        else:
            call, args, found = self.choose(chance, agenda, rules, rows)
            if isinstance(found, tuple):
                self.does(desk, call, *args)
                account[0], account[1] = history[:at + 1] + [found], at + 1
            else:
                self.refused(desk, found, call, *args)
        agenda, rules, rows = account[0][account[1]]
        self.assertEqual((desk.agenda, desk.names, desk.people), (agenda, tuple(sorted(rules)), tuple(sorted(rows))))
        self.assertEqual({name: desk[name] for name in desk}, rules)
        self.assertEqual({name: desk.row_by(name) for name in desk.people}, rows)

    def choose(self, chance, agenda, rules, rows):
        """A call, its arguments, and what the desk has behind it or the error that it raises."""
        call = chance.choice(("keep", "forget", "vote", "leave", "add", "take", "drop", "turn", "keep", "vote"))
        name = chance.choice("abc")
        values = tuple(chance.randrange(2) for _ in agenda.issues)
        issues = tuple(issue for issue in agenda.issues if chance.randrange(2))
        if call == "keep":
            tables = {issue: chance.choice(TABLES) for issue in agenda.issues}
            followed = [Rule.of_voter(agenda.issues, voters, 0) for voters in (1, 2)]
            rule = chance.choice([Rule(2, tables), *followed])
            right = is_rule_for(agenda, rule)
            return call, (name, rule), (agenda, {**rules, name: rule}, rows) if right else NoRow
        if call == "forget":
            left = {key: rules[key] for key in rules if key != name}
            return call, (name,), (agenda, left, rows) if name in rules else UnknownName
        if call == "vote":
            return call, (name, values), (agenda, rules,
                                          {**rows, name: values}) if values in agenda.rows else InvalidOperation
        if call == "leave":
            left = {key: rows[key] for key in rows if key != name}
            return call, (name,), (agenda, rules, left) if name in rows else UnknownName
        if call in ("add", "take"):
            return call, (values,), self.changed(call, values, agenda, rules, rows)
        if call == "drop":
            issue = chance.choice(agenda.issues)
            rest = tuple(other for other in agenda.issues if other != issue)
            if not rest:
                return call, (issue,), InvalidOperation
            places = [agenda.issues.index(other) for other in rest]
            cut = {key: tuple(row[at] for at in places) for key, row in rows.items()}
            return call, (issue,), (agenda.only(rest), {key: rule.only(rest) for key, rule in rules.items()}, cut)
        turned = {key: tuple(value ^ int(issue in issues) for issue, value in zip(agenda.issues, row))
                  for key, row in rows.items()}
        return call, (issues,), (agenda.turned(issues), {key: rule.turned(issues) for key, rule in rules.items()},
                                 turned)

    def changed(self, call, values, agenda, rules, rows):
        """What the desk has behind a row more or less, or the error that is raised."""
        if (values in agenda.rows) == (call == "add"):
            return InvalidOperation
        changed = [row for row in agenda.rows if row != values] + ([values] if call == "add" else [])
        if not all(len(set(column)) == 2 for column in zip(*changed)):
            return InvalidAgenda
        if call == "take" and values in rows.values():
            return InvalidOperation
        found = Agenda(agenda.issues, tuple(sorted(changed)))
        return (found, rules, rows) if all(is_rule_for(found, rule) for rule in rules.values()) else Broken


if __name__ == "__main__":
    unittest.main()
