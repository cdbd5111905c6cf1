"""The error classes: points [1.1] and [1.2]."""

import unittest

from oneswill import errors
from oneswill.errors import Broken, InvalidAgenda, InvalidName, InvalidNumber, InvalidOperation, InvalidPart
from oneswill.errors import InvalidRule, InvalidSentence, NoRow, NothingToUndo, ParseError, TooMany, UnknownName
from oneswill.errors import WillError

MESSAGES = (InvalidName, InvalidAgenda, InvalidPart, InvalidRule, InvalidSentence, InvalidOperation)
VOTES = ((1, 1, 1), (0, 0, 1))
MADE = (
    (ParseError(3), WillError), (InvalidNumber(-1), IndexError), (UnknownName("r"), KeyError),
    (TooMany(200000), OverflowError), (NothingToUndo(2), LookupError), (NoRow(VOTES), ArithmeticError),
    (Broken("half", VOTES), ArithmeticError),
)


class DerivedTest(unittest.TestCase):
    def test_will_error_is_a_value_error(self):
        self.assertEqual(WillError.__bases__, (ValueError,))

    def test_each_is_directly_derived_from_one_class(self):
        for error in MESSAGES:
            self.assertEqual(error.__bases__, (WillError,), error)
        for error, base in MADE:
            self.assertEqual(type(error).__bases__, (base,), error)

    def test_none_is_derived_from_another_one(self):
        kinds = [*MESSAGES, *(type(error) for error, _ in MADE)]
        self.assertEqual(len(set(kinds)), 13)
        for one in kinds:
            for other in kinds:
                self.assertEqual(issubclass(one, other), one is other, (one, other))

    def test_only_refused_forms_are_will_errors(self):
        for error, base in MADE:
            self.assertEqual(isinstance(error, WillError), base is WillError, error)
            self.assertEqual(isinstance(error, ValueError), base is WillError, error)

    def test_each_class_stands_in_the_module(self):
        for kind in [WillError, *MESSAGES, *(type(error) for error, _ in MADE)]:
            self.assertEqual(kind.__module__, "oneswill.errors")
            self.assertIs(getattr(errors, kind.__name__), kind)


class KeptTest(unittest.TestCase):
    def test_messages(self):
        for kind in MESSAGES:
            self.assertEqual(str(kind("so it is")), "so it is")

    def test_kept_values(self):
        self.assertEqual(ParseError(3).index, 3)
        self.assertEqual(InvalidNumber(-1).value, -1)
        self.assertEqual(UnknownName("r").name, "r")
        self.assertEqual(TooMany(500).limit, 500)
        self.assertEqual(NothingToUndo(2).many, 2)
        self.assertEqual(NoRow(VOTES).votes, VOTES)
        self.assertEqual((Broken("half", VOTES).which, Broken("half", VOTES).votes), ("half", VOTES))

    def test_each_keeps_just_its_values(self):
        kept = [sorted(vars(error)) for error, _ in MADE]
        self.assertEqual(kept, [["index"], ["value"], ["name"], ["limit"], ["many"], ["votes"], ["votes", "which"]])

    def test_str_of_a_kept_value_is_its_repr(self):
        for value in (0, -1, 10 ** 60, True, None, "r", "it's", "a\nb", (), ("a",), ["a", 0], {"a": (1,)}, "", VOTES):
            self.assertEqual(str(InvalidNumber(value)), repr(value))
            self.assertEqual(str(UnknownName(value)), repr(value))
            self.assertEqual(repr(InvalidNumber(value).value), repr(value))
            self.assertEqual(repr(UnknownName(value).name), repr(value))

    def test_repr_is_like_the_document(self):
        self.assertEqual(repr(UnknownName("r")), "UnknownName('r')")
        self.assertEqual(repr(NoRow(((1, 0),))), "NoRow(((1, 0),))")
        self.assertEqual(repr(Broken("half", ((1, 1), (0, 0)))), "Broken('half', ((1, 1), (0, 0)))")
        self.assertEqual(repr(ParseError(1)), "ParseError(1)")

    def test_an_error_shares_no_state_with_its_value(self):
        value = [["a"], {"b": [1]}, (["c"],)]
        number, unknown = InvalidNumber(value), UnknownName(value)
        value[0].append("x")
        value[1]["b"].append(2)
        value[2][0].append("y")
        value.append(3)
        self.assertEqual(number.value, [["a"], {"b": [1]}, (["c"],)])
        self.assertEqual(unknown.name, [["a"], {"b": [1]}, (["c"],)])
        self.assertEqual(str(unknown), "[['a'], {'b': [1]}, (['c'],)]")


if __name__ == "__main__":
    unittest.main()
