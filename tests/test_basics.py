"""Basics: INTEGERS, COUNTS and lists among all kinds of values."""

import unittest

from owncontraries.basics import is_count, is_integer, is_list
from owncontraries.rooms import Room
from tests.values import AT_LEAST_ZERO, BELOW_ZERO, LISTS, NO_NUMBERS

ROOM = Room(2, [3])
DEEP = [[[[[[[[[[[[1]]]]]]]]]]]]


class TestBasics(unittest.TestCase):
    def check(self, asked, values, wanted):
        for value in values:
            with self.subTest(asked.__name__, value=value):
                self.assertIs(asked(value), wanted)
                self.assertIs(asked(value=value), wanted)
                self.assertIs(asked(value), wanted)

    def test_integers(self):
        self.check(is_integer, BELOW_ZERO + AT_LEAST_ZERO, True)

    def test_no_integers(self):
        self.check(is_integer, NO_NUMBERS + LISTS + [ROOM, DEEP], False)

    def test_counts(self):
        self.check(is_count, AT_LEAST_ZERO, True)

    def test_no_counts(self):
        self.check(is_count, BELOW_ZERO + NO_NUMBERS + LISTS + [ROOM, DEEP], False)

    def test_lists(self):
        self.check(is_list, LISTS + [DEEP, [ROOM], (ROOM,)], True)

    def test_no_lists(self):
        self.check(is_list, BELOW_ZERO + AT_LEAST_ZERO + NO_NUMBERS + [ROOM], False)

    def test_truths_are_no_numbers(self):
        for truth in [True, False]:
            self.assertIs(is_integer(truth), False)
            self.assertIs(is_count(truth), False)
            self.assertIs(is_list(truth), False)

    def test_a_list_and_a_tuple_are_both_lists(self):
        self.assertIs(is_list([1, 2]), True)
        self.assertIs(is_list((1, 2)), True)

    def test_a_value_is_not_changed(self):
        value = [3, [4], {"a": 1}]
        for asked in [is_integer, is_count, is_list]:
            asked(value)
        self.assertEqual(value, [3, [4], {"a": 1}])


if __name__ == "__main__":
    unittest.main()
