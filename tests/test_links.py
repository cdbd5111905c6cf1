"""Links, chains and knots: points [0.9] and [5.1] and stage 5."""

import unittest
from itertools import product

from oneswill.base.agendas import Agenda, contrary
from oneswill.base.clashes import least_clashes
from oneswill.errors import InvalidAgenda, InvalidOperation
from oneswill.link.links import chain, clashes_for, is_blocked, is_chain, knots, led_to, links
from tests.common import CLAIM, EVEN, ORDERS, PAIR, SIX, Calls, linked, mixed_agendas, small_agendas

# No answers of PAIR.
NO_ANSWERS = (("c", 0), ("a", True), ("a", False), ("a", 2), ("a", -1), ("a",), ("a", 0, 0), ["a", 0], "a0", (),
              None, 0,
              ("A", 0), (0, "a"), {"a": 0}, (("a", 0),), ("a", None), (["a"], 0), (("a",), 0), ("a", [0]), PAIR, "a")
# Each value 1 forces value 1 for each later issue.
FORCING = Agenda(SIX, tuple((0,) * (6 - many) + (1,) * many for many in range(7)))
# Three side by side have one value, and the other three the other one.
RINGED = Agenda(SIX, tuple(sorted({tuple((start + at) // 3 % 2 for at in range(6)) for start in range(6)})))


def spread(agenda):
    """For each answer the answers to which it leads, with itself, told by links alone."""
    pairs = linked(agenda)
    led = {answer: {answer} for answer in agenda.answers}
    for _ in led:
        for one, other in pairs:
            for found in led.values():
                if one in found:
                    found.add(other)
    return led


def length(pairs, one, other):
    """How many answers a shortest chain of these links has, or None."""
    level, seen = {one}, {one}
    for many in range(1, 13):
        if other in level:
            return many
        level = {to for at, to in pairs if at in level} - seen
        seen |= level
    return None


class LinksTest(Calls):
    def test_links(self):
        for agenda in small_agendas():
            self.assertEqual(repr(self.told(links, agenda)), repr(tuple(sorted(linked(agenda)))))

    def test_the_contraries_are_linked_the_other_way(self):
        for agenda in small_agendas():
            found = links(agenda)
            for one, other in found:
                self.assertIn((contrary(other), contrary(one)), found)
                self.assertNotIn(other, (one, contrary(one)))

    def test_all_rows_have_no_link(self):
        self.assertEqual(links(Agenda.free(SIX)), ())

    def test_clashes_for(self):
        for agenda in small_agendas()[::3]:
            for one in agenda.answers:
                for other in agenda.answers:
                    shown = tuple(clash for clash in least_clashes(agenda)
                                  if one in clash and contrary(other) in clash and one != contrary(other))
                    self.assertEqual(self.told(clashes_for, agenda, one, other), shown)
                    self.assertIs(shown != (), (one, other) in linked(agenda))

    def test_no_link_of_an_answer_to_itself_or_to_its_contrary(self):
        for agenda in (PAIR, EVEN, ORDERS, CLAIM):
            for answer in agenda.answers:
                self.assertEqual(clashes_for(agenda, answer, answer), ())
                self.assertEqual(clashes_for(agenda, answer, contrary(answer)), ())

    def test_several_clashes_for_one_link(self):
        agenda = Agenda.free(("a", "b", "c")).without_row((0, 0, 0)).without_row((0, 0, 1)).without_row((0, 1, 0))
        self.assertEqual(clashes_for(EVEN, ("a", 0), ("b", 0)), ((("a", 0), ("b", 1), ("c", 0)),))
        self.assertEqual(clashes_for(agenda, ("a", 0), ("b", 1)), ((("a", 0), ("b", 0)),))
        self.assertEqual(len(clashes_for(Agenda(SIX, RINGED.rows), ("a", 0), ("b", 0))), 2)


class ChainTest(Calls):
    def test_chains(self):
        for agenda in (PAIR, CLAIM, EVEN, Agenda.free(("a", "b"))):
            pairs = linked(agenda)
            for many in range(4):
                for value in product(agenda.answers, repeat=many):
                    right = many > 0 and all(pair in pairs for pair in zip(value, value[1:]))
                    self.assertIs(is_chain(agenda, value), right, value)

    def test_an_answer_alone_and_none(self):
        self.assertIs(is_chain(Agenda.free(("a",)), (("a", 0),)), True)
        self.assertIs(is_chain(PAIR, ()), False)

    def test_long_chains(self):
        ring = (("a", 0), ("b", 1))
        self.assertIs(is_chain(PAIR, ring * 30), True)
        self.assertIs(is_chain(PAIR, ring * 30 + ring[1:]), False)
        self.assertIs(is_chain(PAIR, ring + (("a", 1),)), False)

    def test_a_missing_link(self):
        self.assertIs(is_chain(CLAIM, (("q", 0), ("both", 0), ("p", 0))), True)
        self.assertIs(is_chain(CLAIM, (("q", 0), ("p", 0))), False)
        self.assertIs(is_chain(CLAIM, (("q", 0), ("q", 0))), False)

    def test_no_chains(self):
        for value in NO_ANSWERS:
            self.assertIs(is_chain(PAIR, (value,)), False, value)
            self.assertIs(is_chain(PAIR, (("a", 0), value)), False, value)
            self.assertIs(is_chain(PAIR, (value, ("a", 0))), False, value)
        for value in ([("a", 0)], [], ("a", 0), "a", None, {("a", 0): 1}, PAIR, (("a", 0), ("b", True))):
            self.assertIs(is_chain(PAIR, value), False, value)
        self.judge_wrong(is_chain, PAIR)

    def test_shortest_chains(self):
        for agenda in small_agendas()[::3] + mixed_agendas(4) + [FORCING, RINGED]:
            pairs = linked(agenda)
            for one in agenda.answers:
                for other in agenda.answers:
                    self.check_chain(agenda, one, other, length(pairs, one, other))

    def check_chain(self, agenda, one, other, many):
        found = self.told(chain, agenda, one, other)
        if many is None:
            self.assertIsNone(found)
        else:
            self.assertEqual((len(found), found[0], found[-1]), (many, one, other))
            self.assertIs(is_chain(agenda, found), True)

    def test_agendas_of_each_number_of_issues(self):
        self.assertEqual({len(agenda.issues) for agenda in mixed_agendas(4)}, {1, 2, 3, 4, 5, 6})

    def test_from_an_answer_to_itself(self):
        self.assertEqual(chain(PAIR, ("a", 0), ("a", 0)), (("a", 0),))


class KnotsTest(Calls):
    def test_led_to(self):
        for agenda in small_agendas() + mixed_agendas() + [FORCING, RINGED]:
            for answer, led in spread(agenda).items():
                self.assertEqual(repr(self.told(led_to, agenda, answer)), repr(tuple(sorted(led))))

    def test_knots(self):
        for agenda in small_agendas() + mixed_agendas() + [FORCING, RINGED]:
            led = spread(agenda)
            right = {tuple(sorted(other for other in led[one] if one in led[other])) for one in led}
            self.assertEqual(repr(self.told(knots, agenda)), repr(tuple(sorted(right))))
            self.assertIs(self.told(is_blocked, agenda), right == {agenda.answers})

    def test_each_answer_alone(self):
        self.assertEqual(knots(Agenda.free(("a",))), ((("a", 0),), (("a", 1),)))
        self.assertIs(is_blocked(Agenda.free(("a",))), False)
        # Each value 1 forces those behind it, none of which forces it.
        self.assertEqual(knots(FORCING), tuple((answer,) for answer in FORCING.answers))

    def test_six_issues(self):
        for agenda in (FORCING, RINGED, Agenda.free(SIX), Agenda(SIX, tuple(product((0, 1), repeat=6))[1:-1])):
            for call in (links, knots, is_blocked):
                self.soon(call, agenda)


class WrongTest(Calls):
    def test_no_agenda(self):
        answer = ("a", 0)
        for call, more in ((links, ()), (clashes_for, (answer, answer)), (is_chain, ((),)), (chain, (answer, answer)),
                           (led_to, (answer,)), (knots, ()), (is_blocked, ())):
            self.refuse_wrong(InvalidAgenda, call, PAIR, *more, at=0, right=(PAIR, EVEN, CLAIM))
            # It is told ahead of wrong answers.
            self.refuse(InvalidAgenda, call, PAIR.rows, *[None for _ in more])

    def test_no_answers(self):
        for value in NO_ANSWERS:
            for call in (clashes_for, chain):
                self.refuse(InvalidOperation, call, PAIR, value, ("a", 0))
                self.refuse(InvalidOperation, call, PAIR, ("a", 0), value)
            self.refuse(InvalidOperation, led_to, PAIR, value)
        for call in (clashes_for, chain):
            self.refuse_wrong(InvalidOperation, call, PAIR, ("a", 0), ("a", 0), at=1)
            self.refuse_wrong(InvalidOperation, call, PAIR, ("a", 0), ("a", 0), at=2)
        self.refuse_wrong(InvalidOperation, led_to, PAIR, ("a", 0), at=1)

    def test_answers_of_another_agenda(self):
        self.refuse(InvalidOperation, chain, CLAIM, ("a", 0), ("p", 0))
        self.refuse(InvalidOperation, led_to, ORDERS, ("p", 0))


if __name__ == "__main__":
    unittest.main()
