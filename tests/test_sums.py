"""Gleason's sums and sums by fours."""

import random
import unittest

from owncontraries.errors import InvalidNumbers, InvalidPlaces, NotEights
from owncontraries.fours import is_by_fours
from owncontraries.sums import fours_row_of, fours_sums, row_of, sums
from owncontraries.weights import row
from tests.checks import Checks
from tests.drawn import drawn_fours_rooms, drawn_own_rooms, drawn_rooms, own_rooms, own_rooms_of, row_by_words
from tests.polynomials import plain_fours_row, plain_row
from tests.values import AT_LEAST_ZERO, BELOW_ZERO, NO_EVENS, NO_NUMBER_LISTS, NO_NUMBERS

EVENS = list(range(2, 25, 2))
EIGHTS = [8, 16, 24]


def drawn_numbers(seed, many, times):
    """Lists of so many drawn INTEGERS, the first of them all 0, and each 1 alone."""
    chance = random.Random(seed)
    yield [0] * many
    for at in range(many):
        yield [0] * at + [1] + [0] * (many - at - 1)
        yield [1] + [0] * at + [-3] * (many - at - 1)
    for _ in range(times):
        yield [chance.randrange(-60, 61) for _ in range(many)]


def own_rows():
    """Rows of own rooms of 2 to 24 places."""
    for room in list(own_rooms()) + list(drawn_own_rooms(91, EVENS)) + own_rooms_of(6):
        yield row(room)


def fours_rows():
    """Rows of own rooms by fours."""
    rooms = [room for room in own_rooms() if is_by_fours(room)] + list(drawn_fours_rooms(92, [8, 16, 24, 24]))
    for room in rooms:
        yield row(room)


class TestExamples(unittest.TestCase):
    def test_the_examples_of_the_interface(self):
        told = [sums([1, 0, 0, 0, 14, 0, 0, 0, 1]), sums([1, 0, 1, 0, 1]), row_of(4, [1]), row_of(10, [1, -5])]
        wanted = "[[1, -4], None, [1, 0, 2, 0, 1], [1, 0, 0, 0, 15, 0, 15, 0, 0, 0, 1]]"
        self.assertEqual(repr(told), wanted)
        told = [fours_sums([1, 0, 0, 0, 14, 0, 0, 0, 1]), fours_row_of(24, [1, -42])[8], fours_row_of(24, [1, -42])[12]]
        self.assertEqual(repr(told), "[[1], 759, 2576]")


class TestRows(Checks):
    def check_row(self, function, places, numbers, wanted):
        told = self.asked(function, places=places, numbers=numbers)
        self.assertIs(type(told), list)
        self.assertEqual(told, wanted)
        self.assertEqual({type(number) for number in told}, {int})
        self.assertEqual(function(places, tuple(numbers)), wanted)

    def test_against_the_polynomials(self):
        for places in EVENS:
            for numbers in drawn_numbers(places, places // 8 + 1, 12):
                self.check_row(row_of, places, numbers, plain_row(places, numbers))

    def test_by_fours_against_the_polynomials(self):
        for places in EIGHTS:
            for numbers in drawn_numbers(places, places // 24 + 1, 12):
                self.check_row(fours_row_of, places, numbers, plain_fours_row(places, numbers))

    def test_known_rows(self):
        self.assertEqual(row_of(2, [1]), [1, 0, 1])
        self.assertEqual(row_of(8, [0, 1]), [0, 0, 1, 0, -2, 0, 1, 0, 0])
        golay = fours_row_of(24, [1, -42])
        told = {at: number for at, number in enumerate(golay) if number}
        self.assertEqual(told, {0: 1, 8: 759, 12: 2576, 16: 759, 24: 1})
        self.assertEqual(fours_row_of(16, [1])[4], 28)


class TestSums(Checks):
    def test_led_back(self):
        for places in EVENS:
            for numbers in drawn_numbers(100 + places, places // 8 + 1, 8):
                told = self.asked(sums, numbers=plain_row(places, numbers))
                self.assertEqual((told, type(told)), (numbers, list))
                self.assertEqual({type(number) for number in told}, {int})
                self.assertEqual(sums(tuple(plain_row(places, numbers))), numbers)

    def test_by_fours_led_back(self):
        for places in EIGHTS:
            for numbers in drawn_numbers(100 + places, places // 24 + 1, 8):
                told = self.asked(fours_sums, numbers=plain_fours_row(places, numbers))
                self.assertEqual((told, type(told)), (numbers, list))
                self.assertEqual({type(number) for number in told}, {int})
                self.assertEqual(fours_sums(tuple(plain_fours_row(places, numbers))), numbers)

    def test_one_number_changed(self):
        for places in EVENS:
            for numbers in drawn_numbers(200 + places, places // 8 + 1, 2):
                told = plain_row(places, numbers)
                for at in range(places + 1):
                    for by in [1, -1, 2, 16]:
                        # a single x to the i times y to the j is no sum
                        changed = told[:at] + [told[at] + by] + told[at + 1:]
                        self.assertIsNone(sums(changed))
                        if places % 8 == 0:
                            self.assertIsNone(fours_sums(changed))

    def test_numbers_exchanged(self):
        for places in EVENS:
            told = plain_row(places, [1] + [0] * (places // 8))
            self.assertIsNone(self.asked(sums, numbers=told[1:] + told[:1]))
            # one place further
            self.assertIsNone(self.asked(sums, numbers=[0] + told[:-1]))

    def test_sums_that_are_none_by_fours(self):
        for places in EIGHTS:
            plain = plain_row(places, [1] + [0] * (places // 8))
            self.assertIsNone(self.asked(fours_sums, numbers=plain))
            # each sum by fours is a sum
            for numbers in drawn_numbers(7, places // 24 + 1, 5):
                told = plain_fours_row(places, numbers)
                self.assertEqual(plain_row(places, self.asked(sums, numbers=told)), told)

    def test_rows_of_own_rooms_are_sums(self):
        for numbers in own_rows():
            told = self.asked(sums, numbers=numbers)
            self.assertEqual(plain_row(len(numbers) - 1, told), numbers)
            self.assertEqual(told[0], 1)

    def test_rows_of_own_rooms_by_fours_are_sums_by_fours(self):
        for numbers in fours_rows():
            told = self.asked(fours_sums, numbers=numbers)
            self.assertEqual(plain_fours_row(len(numbers) - 1, told), numbers)

    def test_rows_of_other_rooms(self):
        refused = 0
        for room in drawn_rooms(93, [2, 4, 6, 8, 10], 5):
            numbers = row_by_words(room)
            told = sums(numbers)
            if told is None:
                refused += 1
            else:
                self.assertEqual(plain_row(room.places, told), numbers)
        self.assertGreater(refused, 15)

    def test_no_sums(self):
        for places in EVENS:
            self.assertEqual(sums([0] * (places + 1)), [0] * (places // 8 + 1))
            self.assertIsNone(sums([1] + [0] * places))
            self.assertIsNone(sums([0] * places + [1]))
            self.assertIsNone(sums([1] * (places + 1)))


class TestWrong(Checks):
    def test_numbers_of_sums(self):
        for function, good in [(sums, [1, 0, 1]), (sums, [0] * 25), (fours_sums, [0] * 9), (fours_sums, [0] * 25)]:
            self.check_wrong(function, {"numbers": good}, {"numbers": (InvalidNumbers, NO_NUMBER_LISTS)})

    def test_just_the_lengths(self):
        for many in range(40):
            good = many in [places + 1 for places in EVENS]
            for numbers in [[0] * many, (0,) * many]:
                for function in [sums, fours_sums]:
                    if not good:
                        self.check_error(InvalidNumbers, {"value": numbers}, function, numbers=numbers)
                if good:
                    self.assertEqual(sums(numbers), [0] * ((many - 1) // 8 + 1))

    def test_places_and_numbers(self):
        for places in EVENS:
            for function, many in [(row_of, places // 8 + 1), (fours_row_of, places // 24 + 1)]:
                right = [1] * many
                lists = [right[:-1], right + [0], right[:-1] + [True], right[:-1] + [None], [[1]] * many, ["1"] * many]
                lists += NO_NUMBERS + BELOW_ZERO + AT_LEAST_ZERO + [[], (), right + [0] * 24, tuple(right) + (0,)]
                told = {"places": (InvalidPlaces, NO_EVENS), "numbers": (InvalidNumbers, lists)}
                self.check_wrong(function, {"places": places, "numbers": right}, told)

    def test_places_that_8_does_not_divide(self):
        for places in EVENS:
            right, all_numbers = [1] * (places // 24 + 1), [0] * (places + 1)
            if places % 8:
                self.check_error(NotEights, {}, fours_row_of, places=places, numbers=right)
                self.check_error(NotEights, {}, fours_row_of, places=places, numbers=tuple(right))
                self.check_error(NotEights, {}, fours_sums, numbers=all_numbers)
                self.check_error(NotEights, {}, fours_sums, numbers=tuple(plain_row(places, [1, 0, 0, 0])))
            else:
                self.assertEqual(fours_sums(all_numbers), [0] * len(right))
            # behind all others
            self.check_error(InvalidNumbers, {"value": right + [1]}, fours_row_of, places=places, numbers=right + [1])
            wrong = all_numbers[:-1] + [True]
            self.check_error(InvalidNumbers, {"value": wrong}, fours_sums, numbers=wrong)


class TestCopies(Checks):
    def test_told_lists_are_new(self):
        self.check_new(sums, [1, 0, 0, 0, 14, 0, 0, 0, 1])
        self.check_new(fours_sums, [1, 0, 0, 0, 14, 0, 0, 0, 1])
        for places in EVENS:
            self.check_new(row_of, places, [1] * (places // 8 + 1))
        for places in EIGHTS:
            self.check_new(fours_row_of, places, [1] * (places // 24 + 1))

    def test_nothing_that_is_passed_is_changed(self):
        numbers = [1, 0, 2, 0, 1]
        self.assertEqual([sums(numbers), sums(numbers), numbers], [[1], [1], [1, 0, 2, 0, 1]])
        factors = [1, -5]
        self.assertEqual([row_of(10, factors)[4], factors], [15, [1, -5]])


if __name__ == "__main__":
    unittest.main()
