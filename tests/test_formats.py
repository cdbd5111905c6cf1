"""Texts: points [17.1] and [17.2] and stage 17."""

import unittest
from itertools import product

from oneswill.base.agendas import Agenda
from oneswill.errors import InvalidAgenda, InvalidOperation, InvalidRule, ParseError
from oneswill.rule.even import even_paper
from oneswill.rule.rules import Rule
from oneswill.rule.same import way_paper
from oneswill.rule.sums import sums_paper
from oneswill.rule.verdict import paper
from oneswill.text.formats import read_agenda, read_rule, read_value, write_agenda, write_rule, write_value
from tests.common import BOTH, CLAIM, EVEN, MOST, ORDERS, PAIR, SIX, Calls, all_rules, deep, mixed_agendas, nested
from tests.common import small_agendas, wrong_values

FREE = Agenda.free(("a",))
MIXED = Rule(3, {"ab": (0, 1, 0, 0, 1, 0, 1, 1), "ac": (0, 0, 0, 1, 0, 1, 1, 1), "bc": (0,) * 7 + (1,)})
# Values with their texts.
TEXTS = (
    (0, "0"), (7, "7"), (10 ** 60 - 1, "9" * 60), (True, "yes"), (False, "no"), (None, "none"), ("a", "=a"), ("yes",
                                                                                                              "=yes"),
    ("abcdefgh", "=abcdefgh"), ((), "( )"), ({}, "{ }"), ((0,), "( 0 )"), ((True, 1), "( yes 1 )"), (((), ()),
                                                                                                     "( ( ) ( ) )"),
    ((None, "none", False, 0), "( none =none no 0 )"), ({"b": 1, "a": 0}, "{ =a 0 =b 1 }"),
    # By repr strings stand ahead of tuples, these of numbers, and all of them of True, False and None.
    ({None: 1, True: 2, 10: 3, 9: 4, (9,): 5, "z": 6, False: 7, ("a",): 8},
     "{ =z 6 ( =a ) 8 ( 9 ) 5 10 3 9 4 no 7 none 1 yes 2 }"),
    ({(): {(0, ()): ()}}, "{ ( ) { ( 0 ( ) ) ( ) } }"), (({"a": {"b": (1, {})}}, None),
                                                         "( { =a { =b ( 1 { } ) } } none )"),
    (("even", {"a": 0, "b": 1}), "( =even { =a 0 =b 1 } )"), ({1: "x"}, "{ 1 =x }"), ({True: "x"}, "{ yes =x }"),
    ({(1, True): 0, (0, False): 1}, "{ ( 0 no ) 1 ( 1 yes ) 0 }"),
    (nested("tuple", 8), "( " * 8 + "1" + " )" * 8), (nested("dict", 8), "{ =a " * 8 + "1" + " }" * 8),
    ({nested("tuple", 7): 0}, "{ " + "( " * 7 + "1" + " )" * 7 + " 0 }"),
)
# Lines that are the text of no value.
NO_TEXTS = (
    "", " ", "  ", "a", "=", "=A", "=abcdefghi", "=a ", " =a", "== a", "= a", "-1", "01", "00", "+1", "1.0", "1e3",
    "0x1", "1_0",
    "10" + "0" * 59, "yes ", "Yes", "True", "None", "no no", "1 2", "(", ")", "( ", "()", "( 1", "1 )", ") (",
    "( 1 ) 2", "( 1 ) )",
    "( ( 1 )", "(  )", "( 1  2 )", " ( )", "( ) ", "( 1 2)", "(1 )", "{", "}", "{}", "{ =a }", "{ =a 1", "{ =a 1 =b }",
    "( }", "{ )",
    "( { ) }", "{ ( } )", "[ ]", "( , )", "( 1 , 2 )", "{ =a : 1 }", "'a'", "=a\t", "\t=a", "1\r", "=a=b", "( =a =b",
    # Keys out of order, equal keys, keys that have dicts in them.
    "{ =b 1 =a 0 }", "{ =a 0 =a 0 }", "{ =a 0 =a 1 }", "{ 10 3 9 4 =z 6 }", "{ 0 =a no =b }", "{ no =b 0 =a }",
    "{ 1 =a yes =a }",
    "{ ( 0 ) =a ( no ) =b }", "{ ( ( 1 ) ) 0 ( ( yes ) ) 0 }", "{ none 1 no 7 }", "{ yes 1 none 2 }", "{ { } 1 }",
    "{ { =a 1 } 1 }", "{ ( { } ) 1 }", "{ ( 1 ( 2 { =a 1 } ) ) 1 }", "{ =a 1 { } 1 }", "( { =b 1 =a 0 } )",
    # More than eight one in another.
    "( " * 9 + "1" + " )" * 9, "{ =a " * 9 + "1" + " }" * 9, "( " * 9 + ") " * 8 + ")",
    "{ " + "( " * 8 + "1" + " )" * 8 + " 0 }",
    "( " * 1000 + "1" + " )" * 1000, "( " * 1999, ") " * 1999, "{ " * 1999,
)


def shape(value):
    """All that tells a value; dicts without their order."""
    if isinstance(value, dict):
        return "{" + ", ".join(sorted(f"{shape(key)}: {shape(item)}" for key, item in value.items())) + "}"
    if isinstance(value, tuple):
        return "(" + ", ".join(shape(item) for item in value) + ",)"
    return repr(value)


class FormatTest(Calls):
    def wrong(self, index, call, *args):
        """The call raises a ParseError with this index."""
        self.refuse(ParseError, call, *args, index=index)


class AgendaTextTest(FormatTest):
    def test_there_and_back(self):
        for agenda in small_agendas() + mixed_agendas(4):
            lines = ["issues " + " ".join(agenda.issues)]
            lines += ["row " + "".join(str(value) for value in row) for row in agenda.rows]
            self.assertEqual(self.told(write_agenda, agenda), "\n".join(lines))
            self.assertEqual(deep(self.told(read_agenda, "\n".join(lines))), deep(agenda))

    def test_the_first_wrong_line(self):
        lines = ["issues a b", "row 01", "row 10"]
        for at in range(3):
            for line in ("", " ", "row", "issues", "rows 01", "row 0a", "row 2", "row 01 ", "row  01", " row 01",
                         "row 0 1", "Row 01", "row -1", "issues A", "issues a b ", "issues a  b", " issues a",
                         "issues a b1", "issues abcdefghi", "issue a", "row\t01", "row 01\r", "voters 2", "a b", "01",
                         "issues a,b", "row 01\t"):
                changed = [*lines[:at], line, *lines[at + 1:]]
                self.wrong(at, read_agenda, "\n".join(changed))
                self.wrong(at, read_agenda, "\n".join(changed[:at + 1]))

    def test_lines_that_cannot_stand_there(self):
        self.wrong(0, read_agenda, "row 01\nrow 10")
        self.wrong(0, read_agenda, "row 01\nissues a b\nrow 10")
        self.wrong(1, read_agenda, "issues a b\nissues a b\nrow 01\nrow 10")
        self.wrong(3, read_agenda, "issues a b\nrow 01\nrow 10\nissues a b")
        self.wrong(0, read_agenda, "")
        self.wrong(0, read_agenda, "\n")
        self.wrong(1, read_agenda, "issues a b\n\nrow 01\nrow 10")
        self.wrong(3, read_agenda, "issues a b\nrow 01\nrow 10\n")

    def test_lines_of_no_agenda(self):
        for text in ("issues a b", "issues a b\nrow 01", "issues a b\nrow 10\nrow 01",
                     "issues a b\nrow 01\nrow 01\nrow 10", "issues b a\nrow 01\nrow 10", "issues a a\nrow 01\nrow 10",
                     "issues a\nrow 01\nrow 10", "issues a b c\nrow 01\nrow 10", "issues a b\nrow 01\nrow 1",
                     "issues a b\nrow 01\nrow 100", "issues a b\nrow 00\nrow 01",
                     "issues a b c d e f g\nrow 0000000\nrow 1111111", "issues a\nrow 0\nrow 0",
                     "issues a\nrow 0\nrow 1\nrow 1", "issues a\nrow 1\nrow 0", "issues a\nrow " + "01" * 500):
            self.wrong(text.count("\n") + 1, read_agenda, text)

    def test_each_line_left_out_repeated_or_moved(self):
        for agenda in (CLAIM, ORDERS):
            lines = write_agenda(agenda).split("\n")
            for at in range(len(lines)):
                left = lines[:at] + lines[at + 1:]
                rows = [tuple(map(int, line[4:])) for line in left[1:]]
                if at > 0 and all(len(set(column)) == 2 for column in zip(*rows)):
                    self.assertEqual(read_agenda("\n".join(left)), agenda.without_row(agenda.rows[at - 1]))
                else:
                    self.wrong(len(left) if at else 0, read_agenda, "\n".join(left))
                twice = lines[:at + 1] + lines[at:]
                self.wrong(len(twice) if at else 1, read_agenda, "\n".join(twice))
                if at + 1 < len(lines):
                    moved = [*lines[:at], lines[at + 1], lines[at], *lines[at + 2:]]
                    self.wrong(len(moved) if at else 0, read_agenda, "\n".join(moved))

    def test_other_ends_of_lines(self):
        self.wrong(0, read_agenda, "issues a b\r\nrow 01\r\nrow 10")
        self.wrong(0, read_agenda, "issues a b row 01")

    def test_wrong_values(self):
        self.refuse_wrong(InvalidAgenda, write_agenda, CLAIM, at=0, right=(PAIR, EVEN, CLAIM))
        for value in wrong_values():
            if not isinstance(value, str):
                self.refuse(InvalidOperation, read_agenda, value)
            else:
                with self.assertRaises(ParseError):
                    read_agenda(value)

    def test_long_texts(self):
        self.wrong(0, self.soon, read_agenda, "a" * 4000)
        self.wrong(1, read_agenda, "issues a\n" + "\n" * 3000)
        self.wrong(501, read_agenda, "issues a" + "\nrow 0" * 500)


class RuleTextTest(FormatTest):
    def test_there_and_back(self):
        rules = [(FREE, rule) for voters in (1, 2, 3) for rule in all_rules(("a",), voters)]
        rules += [(CLAIM, BOTH), (ORDERS, MOST), (ORDERS, MIXED), (Agenda.free(SIX), Rule.of_voter(SIX, 4, 2))]
        for agenda, rule in rules:
            lines = [f"voters {rule.voters}"]
            lines += [f"issue {issue} " + "".join(str(value) for value in rule[issue]) for issue in rule.issues]
            self.assertEqual(self.told(write_rule, agenda, rule), "\n".join(lines))
            self.assertEqual(deep(self.told(read_rule, agenda, "\n".join(lines))), deep(rule))

    def test_a_rule_need_not_be_one_for_the_agenda(self):
        self.assertEqual(read_rule(ORDERS, write_rule(ORDERS, MOST)), MOST)

    def test_the_first_wrong_line(self):
        lines = ["voters 2", "issue a 0001", "issue b 0011"]
        for at in range(3):
            for line in ("", " ", "voters", "issue", "issue a", "issue a 0001 ", "issue  a 0001", " issue a 0001",
                         "issue A 0001", "issue a 0021", "issue a 00 01", "issue abcdefghi 0001", "issues a 0001",
                         "voters 02", "voters -2", "voters two", "voters 2 ", "voters  2", "voters 2 2",
                         "voters " + "1" * 61, "voter 2", "row 01", "2", "issue 0001 a", "issue a 0001\r",
                         "issue 1 0001", "voters 2.0", "voters +2", "voters "):
                changed = [*lines[:at], line, *lines[at + 1:]]
                self.wrong(at, read_rule, PAIR, "\n".join(changed))
                self.wrong(at, read_rule, PAIR, "\n".join(changed[:at + 1]))

    def test_lines_that_cannot_stand_there(self):
        self.wrong(0, read_rule, FREE, "issue a 0001\nvoters 2")
        self.wrong(1, read_rule, FREE, "voters 2\nvoters 2\nissue a 0001")
        self.wrong(2, read_rule, FREE, "voters 2\nissue a 0001\nvoters 2")
        self.wrong(0, read_rule, FREE, "")
        self.wrong(2, read_rule, FREE, "voters 2\nissue a 0001\n")

    def test_each_line_left_out_repeated_or_moved(self):
        lines = write_rule(CLAIM, BOTH).split("\n")
        for at in range(len(lines)):
            left, twice = lines[:at] + lines[at + 1:], lines[:at + 1] + lines[at:]
            self.wrong(len(left) if at else 0, read_rule, CLAIM, "\n".join(left))
            self.wrong(len(twice) if at else 1, read_rule, CLAIM, "\n".join(twice))
            if at + 1 < len(lines):
                moved = [*lines[:at], lines[at + 1], lines[at], *lines[at + 2:]]
                self.wrong(len(moved) if at else 0, read_rule, CLAIM, "\n".join(moved))
        # The issues that are left are those of another agenda.
        self.assertEqual(read_rule(CLAIM.only(("p", "q")), "\n".join(lines[:1] + lines[2:])), BOTH.only(("p", "q")))

    def test_numbers_of_sixty_digits_and_more(self):
        self.wrong(2, read_rule, FREE, "voters " + "9" * 60 + "\nissue a 01")
        self.wrong(0, read_rule, FREE, "voters " + "9" * 61 + "\nissue a 01")
        self.wrong(0, read_rule, FREE, "voters 01\nissue a 01")
        self.wrong(2, read_rule, FREE, "voters 0\nissue a 01")

    def test_lines_of_no_rule(self):
        for text in ("voters 2", "voters 0\nissue a 1", "voters 5\nissue a 01", "voters 2\nissue a 01",
                     "voters 1\nissue a 0001", "voters 1\nissue a 00", "voters 1\nissue a 11", "voters 1\nissue a 10",
                     "voters 1\nissue a 0", "voters 1\nissue b 01", "voters 1\nissue a 01\nissue a 01",
                     "voters 1\nissue a 01\nissue b 01", "voters " + "9" * 60 + "\nissue a 01", "voters 1\nissue aa 01",
                     "voters 2\nissue a 00000001"):
            self.wrong(text.count("\n") + 1, read_rule, FREE, text)
        for text in ("voters 1\nissue b 01\nissue a 01", "voters 1\nissue a 01", "voters 1\nissue b 01",
                     "voters 1\nissue a 01\nissue c 01", "voters 2\nissue a 0001\nissue b 01",
                     "voters 1\nissue a 01\nissue b 01\nissue b 01"):
            self.wrong(text.count("\n") + 1, read_rule, PAIR, text)
        self.wrong(4, read_rule, ORDERS, write_rule(CLAIM, BOTH))

    def test_wrong_values(self):
        self.refuse_wrong(InvalidAgenda, write_rule, CLAIM, BOTH, at=0, right=(PAIR, EVEN, CLAIM))
        self.refuse_wrong(InvalidRule, write_rule, CLAIM, BOTH, at=1, right=[BOTH])
        self.refuse(InvalidRule, write_rule, CLAIM, MOST)
        self.refuse(InvalidAgenda, write_rule, None, None)
        self.refuse_wrong(InvalidAgenda, read_rule, CLAIM, "", at=0, right=(PAIR, EVEN, CLAIM))
        self.refuse(InvalidAgenda, read_rule, None, None)
        for value in wrong_values():
            if not isinstance(value, str):
                self.refuse(InvalidOperation, read_rule, CLAIM, value)
            else:
                with self.assertRaises(ParseError):
                    read_rule(CLAIM, value)


class ValueTextTest(FormatTest):
    def test_there_and_back(self):
        for value, text in TEXTS:
            self.assertEqual(self.told(write_value, value), text)
            self.assertEqual(shape(self.told(read_value, text)), shape(value))

    def test_papers(self):
        for agenda in (PAIR, CLAIM, EVEN, ORDERS):
            found = [sums_paper(agenda), even_paper(agenda),
                     *[way_paper(agenda, way) for way in ("both", "either", "most", "sum")]]
            for value in found + [part for part in paper(agenda) if not isinstance(part, Rule)]:
                self.assertEqual(shape(read_value(write_value(value))), shape(value))

    def test_all_small_values(self):
        # Each value of these parts has a text of its own.
        parts = [0, 1, True, False, None, "a", (), {}, (0,), (False,)]
        values = parts + [(one, other) for one in parts for other in parts]
        values += [{one: other} for one in parts if not isinstance(one, dict) for other in parts]
        texts = {write_value(value) for value in values}
        self.assertEqual(len(texts), len({shape(value) for value in values}))
        for value in values:
            self.assertEqual(shape(read_value(write_value(value))), shape(value))

    def test_values_without_a_text(self):
        for value in (-1, 10 ** 60, -(10 ** 60), "", "A", "a b", "abcdefghi", "1", "a\n", [], [0], ([],), (1, [2]),
                      {"a": []}, {"a": -1}, {"A": 1}, {-1: 0}, {"": 0}, {10 ** 60: 0}, {("A",): 0}, {(1, (-1,)): 0},
                      (((((("A",),),),),),), CLAIM, BOTH, (CLAIM,), {"a": BOTH}, nested("tuple", 9), nested("dict", 9),
                      nested("tuple", 10), nested("list", 1), {nested("tuple", 8): 0}, {"a": nested("tuple", 8)},
                      ({(nested("tuple", 6),): 0},)):
            self.refuse(InvalidOperation, write_value, value)
        for value in wrong_values():
            try:
                text = write_value(value)
            except InvalidOperation:
                continue
            self.assertEqual(shape(read_value(text)), shape(value))

    def test_no_texts(self):
        for text in NO_TEXTS:
            self.wrong(0, read_value, text)
            self.wrong(0, read_value, text + "\n")
            self.wrong(0, read_value, text + "\n0")

    def test_more_lines(self):
        for _, text in TEXTS:
            for more in ("\n", "\n0", "\n\n", "\n=a\n", "\n("):
                self.wrong(1, read_value, text + more)
        self.wrong(0, read_value, "\n0")
        self.wrong(0, read_value, "( 1\n)")

    def test_no_strings(self):
        for value in wrong_values():
            if not isinstance(value, str):
                self.refuse(InvalidOperation, read_value, value)
            elif value != "1":
                self.wrong(0, read_value, value)

    def test_long_texts(self):
        wide = tuple(range(1000))
        self.assertEqual(self.soon(read_value, self.soon(write_value, wide)), wide)
        keys = {(one, other): one + other for one, other in product(range(30), repeat=2)}
        self.assertEqual(self.soon(read_value, self.soon(write_value, keys)), keys)

    def test_the_order_of_passed_dicts_has_no_effect(self):
        self.assertEqual(write_value({"a": 1, "b": 2}), write_value({"b": 2, "a": 1}))


if __name__ == "__main__":
    unittest.main()
