"""Rows, the table of entries, changed rows and own rows."""

import itertools
import math
import unittest
from fractions import Fraction

from owncontraries.contraries import contrary
from owncontraries.errors import InvalidAt, InvalidPlaces, InvalidRow, NotWhole
from owncontraries.rooms import Room
from owncontraries.tables import changed, entry, is_own_row, is_row
from tests.checks import Checks
from tests.drawn import drawn_rooms, drawn_rows, few_rooms, odd, ons, own_rooms, row_by_words
from tests.values import NO_COUNTS, NO_PLACES, NO_ROWS

ROWS = [
    [1, 0],
    [1, 1],
    (1, 0),
    [1, 0, 0],
    [1, 1, 0],
    [1, 0, 1],
    [1, 2, 1],
    [1, 3, 0],
    [1, 0, 3],
    [1, 0, 2, 0, 1],
    (1, 0, 2, 0, 1),
    [1, 0, 1, 2],
    [1, 7, 0, 0],
    [1] * 2,
    [1] * 4,
    [1] * 8,
    [1] * 16,
    [1] + [0] * 24,
    [1] + [0] * 23 + [2 ** 24 - 1],
    (1,) + (0,) * 23 + (1,),
]


def column(places, second):
    """The numbers of (x + y) to the places - second times (x - y) to the second, multiplied out factor by factor."""
    numbers = [1]
    for sign in [1] * (places - second) + [-1] * second:
        longer = [0] * (len(numbers) + 1)
        for at, number in enumerate(numbers):
            longer[at] += number
            longer[at + 1] += sign * number
        numbers = longer
    return numbers


def plain_changed(row):
    """What a row is changed to, in fractions."""
    places = len(row) - 1
    columns = [column(places, second) for second in range(places + 1)]
    sums = [sum(number * columns[at][first] for at, number in enumerate(row)) for first in range(places + 1)]
    return [Fraction(number, sum(row)) for number in sums]


def first_that_is_no_count(numbers):
    for position, number in enumerate(numbers):
        if number < 0 or number.denominator != 1:
            return position
    return None


def all_rows(places):
    """All rows of so many places, each number of which is at most 2 to the places."""
    for total in [2 ** dimension for dimension in range(places + 1)]:
        for numbers in itertools.product(range(total), repeat=places):
            if sum(numbers) == total - 1:
                yield [1] + list(numbers)


def some_rows():
    for places in [1, 2, 3]:
        yield from all_rows(places)
    yield from drawn_rows()


class TestExamples(unittest.TestCase):
    def test_the_examples_of_the_interface(self):
        told = [entry(4, 1, 1), entry(4, 2, 1), entry(3, 3, 3), [entry(4, j, 2) for j in [0, 1, 2, 3, 4]]]
        self.assertEqual(repr(told), "[2, 0, -1, [1, 0, -2, 0, 1]]")
        told = [changed([1, 0, 0, 1]), is_own_row([1, 0, 2, 0, 1]), is_own_row([1, 0, 1, 2])]
        told = told + [is_row([1, 0, 1, 2]), is_row([1, 0, 2])]
        self.assertEqual(repr(told), "[[1, 0, 3, 0], True, False, True, False]")


class TestIsRow(Checks):
    def test_rows(self):
        for value in ROWS + list(some_rows()):
            self.assertIs(self.truth(is_row, value=value), True)
            self.assertIs(is_row(tuple(value)), True)

    def test_values_that_are_none(self):
        for value in NO_ROWS:
            with self.subTest(value=repr(value)):
                self.assertIs(self.truth(is_row, value=value), False)

    def test_all_short_lists(self):
        for many in [0, 1, 2, 3, 4]:
            for numbers in itertools.product(range(-1, 5), repeat=many):
                good = many > 1 and numbers[0] == 1 and min(numbers) >= 0
                wanted = good and sum(numbers) in [2 ** dimension for dimension in range(many)]
                self.assertIs(is_row(list(numbers)), wanted)
                self.assertIs(is_row(numbers), wanted)

    def test_each_length(self):
        for many in range(30):
            self.assertIs(is_row([1] + [0] * (many - 1)), 2 <= many <= 25)
            if many > 1:
                self.assertIs(is_row([1] + [0] * (many - 2) + [1]), many <= 25)

    def test_sums(self):
        for places in range(1, 25):
            for total in [2 ** dimension for dimension in range(27)]:
                numbers = [1] + [0] * (places - 1) + [total - 1]
                self.assertIs(is_row(numbers), total <= 2 ** places)
            for total in [3, 5, 6, 7, 9, 2 ** places - 1, 2 ** places + 1, 3 * 2 ** (places - 1)]:
                numbers = [1] + [0] * (places - 1) + [total - 1]
                self.assertIs(is_row(numbers), total in [1, 2, 4, 8])

    def test_another_first_number(self):
        for first in [0, 2, 3, 4, -1, True, "1", None]:
            self.assertIs(is_row([first, 0, 1]), False)
            self.assertIs(is_row([first, 0, 0]), False)
            self.assertIs(is_row([first, 1, 2]), False)


class TestEntry(Checks):
    def test_against_the_polynomial_multiplied_out(self):
        for places in range(1, 25):
            for second in range(places + 1):
                told = [entry(places, first, second) for first in range(places + 1)]
                self.assertEqual(told, column(places, second))
                self.assertEqual({type(number) for number in told}, {int})

    def test_by_the_names(self):
        for places, first, second in [(4, 1, 1), (24, 12, 7), (1, 0, 1), (9, 9, 9)]:
            told = self.asked(entry, places=places, first=first, second=second)
            self.assertEqual(told, column(places, second)[first])

    def test_the_sum_over_words(self):
        for places in range(1, 8):
            words = [[word for word in range(2 ** places) if ons(word) == weight] for weight in range(places + 1)]
            for first in range(places + 1):
                for second in range(places + 1):
                    for told in [words[second][0], words[second][-1], words[second][len(words[second]) // 2]]:
                        wanted = sum(-1 if odd(word, told) else 1 for word in words[first])
                        self.assertEqual(entry(places, first, second), wanted)

    def test_the_first_column_and_the_row_of_1(self):
        for places in range(1, 25):
            for at in range(places + 1):
                self.assertEqual(entry(places, at, 0), math.comb(places, at))
                self.assertEqual(entry(places, 1, at), places - 2 * at)
                self.assertEqual(entry(places, 0, at), 1)
                self.assertEqual(entry(places, places, at), (-1) ** at)

    def test_wrong_values(self):
        for places, good in [(4, 2), (1, 0), (24, 24)]:
            wrong_at = NO_COUNTS + [places + 1, places + 2, 25, 10 ** 29]
            wrong = {
                "places": (InvalidPlaces, NO_PLACES),
                "first": (InvalidAt, wrong_at),
                "second": (InvalidAt, wrong_at),
            }
            self.check_wrong(entry, {"places": places, "first": good, "second": good}, wrong)

    def test_just_up_to_the_places(self):
        for places in range(1, 25):
            entry(places, places, places)
            more = places + 1
            self.check_error(InvalidAt, {"value": more}, entry, places=places, first=more, second=0)
            self.check_error(InvalidAt, {"value": more}, entry, places=places, first=0, second=more)


class TestChanged(Checks):
    def test_in_fractions(self):
        raised = 0
        for row in some_rows():
            wanted = plain_changed(row)
            position = first_that_is_no_count(wanted)
            with self.subTest(row=row):
                if position is None:
                    told = self.asked(changed, row=row)
                    self.assertIs(type(told), list)
                    self.assertEqual(told, wanted)
                    self.assertEqual({type(number) for number in told}, {int})
                else:
                    raised += 1
                    self.check_error(NotWhole, {"position": position}, changed, row=row)
        self.assertGreater(raised, 100)

    def test_the_row_of_the_contrary(self):
        for room in list(few_rooms()) + list(drawn_rooms(31, [9, 10, 11])):
            row, other = row_by_words(room), row_by_words(contrary(room))
            self.assertEqual(changed(row), other)
            self.assertEqual(changed(other), row)
            self.assertEqual(changed(tuple(row)), other)

    def test_changed_again(self):
        again = 0
        for row in some_rows():
            wanted = plain_changed(row)
            if first_that_is_no_count(wanted) is None:
                again += 1
                self.assertIs(is_row(changed(row)), True)
                self.assertEqual(changed(changed(row)), row)
        self.assertGreater(again, 30)

    def test_no_words_and_all_words(self):
        for places in range(1, 25):
            full = [math.comb(places, weight) for weight in range(places + 1)]
            self.assertEqual(changed([1] + [0] * places), full)
            self.assertEqual(changed(full), [1] + [0] * places)

    def test_a_number_below_0(self):
        # all whole, one below 0
        self.assertEqual(plain_changed([1, 0, 3]), [1, -1, 1])
        self.check_error(NotWhole, {"position": 1}, changed, row=[1, 0, 3])
        self.assertEqual(plain_changed([1, 0, 7, 0]), [1, Fraction(-1, 2), Fraction(-1, 2), 1])
        self.check_error(NotWhole, {"position": 1}, changed, row=(1, 0, 7, 0))

    def test_a_number_that_is_not_whole(self):
        # none below 0 ahead of it
        self.assertEqual(plain_changed([1, 3, 0, 0]), [1, Fraction(3, 2), 0, Fraction(-1, 2)])
        self.check_error(NotWhole, {"position": 1}, changed, row=[1, 3, 0, 0])
        self.assertEqual(plain_changed([1, 3, 0]), [1, Fraction(1, 2), Fraction(-1, 2)])
        self.check_error(NotWhole, {"position": 1}, changed, row=(1, 3, 0))

    def test_the_position_of_the_first(self):
        found = {}
        for row in some_rows():
            position = first_that_is_no_count(plain_changed(row))
            if position is not None:
                found.setdefault(position, []).append(row)
        self.assertGreater(len(found), 3)
        # the first number is always 1
        self.assertNotIn(0, found)
        for position, rows in found.items():
            for row in rows[:5]:
                self.check_error(NotWhole, {"position": position}, changed, row=tuple(row))

    def test_wrong_rows(self):
        self.check_wrong(changed, {"row": [1, 0, 1]}, {"row": (InvalidRow, NO_ROWS)})

    def test_copies(self):
        for row in [[1, 0, 2, 0, 1], [1, 0, 0, 1], [1, 0]]:
            self.check_new(changed, row)
            self.assertIsNot(changed(row), row)


class TestIsOwnRow(Checks):
    def test_changed_to_itself(self):
        for row in some_rows():
            wanted = plain_changed(row) == row
            self.assertIs(self.truth(is_own_row, row=row), wanted)
            self.assertIs(is_own_row(tuple(row)), wanted)

    def test_own_rooms_have_own_rows(self):
        for room in own_rooms():
            self.assertIs(is_own_row(row_by_words(room)), True)

    def test_own_rows_of_rooms(self):
        for room in few_rooms():
            row = row_by_words(room)
            self.assertIs(is_own_row(row), row == row_by_words(contrary(room)))

    def test_an_own_row_of_a_room_that_is_not_own(self):
        room = Room(2, [1])
        self.assertNotEqual(contrary(room), room)
        self.assertIs(is_own_row([1, 1, 0]), True)

    def test_rows_that_no_room_has(self):
        refused = 0
        for row in some_rows():
            if first_that_is_no_count(plain_changed(row)) is not None:
                refused += 1
                self.assertIs(self.truth(is_own_row, row=row), False)
        self.assertGreater(refused, 100)
        self.assertIs(is_own_row([1, 0, 1, 2]), False)

    def test_odd_numbers_of_places(self):
        for row in some_rows():
            if len(row) % 2 == 0:
                self.assertIs(is_own_row(row), False)

    def test_wrong_rows(self):
        self.check_wrong(is_own_row, {"row": [1, 0, 1]}, {"row": (InvalidRow, NO_ROWS)})


if __name__ == "__main__":
    unittest.main()
