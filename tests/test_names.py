"""Integers, names and values: points [0.1], [0.5], [0.7] and [1.3]."""

import copy
import unittest

from oneswill.base import names
from oneswill.base.names import MAX_LETTERS, is_integer, is_name, is_values
from tests.common import wrong_values


class IntegerTest(unittest.TestCase):
    def test_integers(self):
        for value in (0, 1, -1, -3, 7, 10 ** 59, 10 ** 60 - 1, -(10 ** 59), -(10 ** 60 - 1)):
            self.assertIs(is_integer(value), True, value)

    def test_more_than_sixty_digits(self):
        for value in (10 ** 60, 10 ** 60 + 1, 10 ** 99, -(10 ** 60), -(10 ** 60) - 1, -(10 ** 99)):
            self.assertIs(is_integer(value), False, value)

    def test_other_values(self):
        for value in (True, False, None, "", "1", (), (1,), [1], {1: 1}):
            self.assertIs(is_integer(value), False, value)


class NameTest(unittest.TestCase):
    def test_names(self):
        self.assertEqual(MAX_LETTERS, 8)
        for value in ("a", "z", "ab", "road", "abcdefgh", "zzzzzzzz"):
            self.assertIs(is_name(value), True, value)

    def test_length(self):
        for value in ("", "abcdefghi", "a" * 4000):
            self.assertIs(is_name(value), False, value)

    def test_signs(self):
        for value in ("A", "Road", "roaD", "a1", "1", "a b", " ", "a ", " a", "a\n", "\n", "a_b", "a-b", "`", "{"):
            self.assertIs(is_name(value), False, value)

    def test_other_values(self):
        for value in (0, 1, True, None, ("a",), ["a"], {"a": "b"}, ()):
            self.assertIs(is_name(value), False, value)


class ValuesTest(unittest.TestCase):
    def test_values(self):
        for value in ((), (0,), (1,), (0, 1, 1), (1, 1), (0,) * 100):
            self.assertIs(is_values(value), True, value)

    def test_true_is_not_one(self):
        for value in ((True,), (False,), (0, True), (False, 1), (1, 0, False)):
            self.assertIs(is_values(value), False, value)

    def test_other_items(self):
        for value in ((2,), (-1,), (0, 2), (10 ** 60,), (None,), ("0",), ("",), ((),), ((0,),), (0, [1]), ({},)):
            self.assertIs(is_values(value), False, value)

    def test_other_values(self):
        for value in (0, 1, True, False, None, "", "01", [], [0], [0, 1], {}, {0: 1}):
            self.assertIs(is_values(value), False, value)


class EveryValueTest(unittest.TestCase):
    def test_every_value_has_an_answer(self):
        for judge in (is_integer, is_name, is_values):
            for value in wrong_values():
                before = repr(value)
                self.assertIn(judge(value), (True, False))
                self.assertIs(type(judge(value)), bool)
                self.assertEqual(repr(value), before)

    def test_only_what_is_one_is_taken(self):
        taken = {judge.__name__: [value for value in wrong_values() if judge(value)]
                 for judge in (is_integer, is_name, is_values)}
        self.assertEqual(repr(taken["is_integer"]), repr([0, 1, 2, -1, 10 ** 60 - 1]))
        self.assertEqual(taken["is_name"], ["zz"])
        self.assertEqual(repr(taken["is_values"]), repr([(0, 1, 0, 1, 0, 1, 0)]))

    def test_equal_calls_give_equal_results(self):
        for value in wrong_values():
            again = copy.deepcopy(value)
            for judge in (is_integer, is_name, is_values):
                self.assertEqual(judge(value), judge(again))

    def test_defined_in_their_module(self):
        for judge in (is_integer, is_name, is_values):
            self.assertEqual(judge.__module__, names.__name__)


if __name__ == "__main__":
    unittest.main()
