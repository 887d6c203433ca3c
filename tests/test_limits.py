"""Shadow numbers, bounds, greatest sums, and which numbers can be a row."""

import itertools
import random
import unittest
from fractions import Fraction

from owncontraries.errors import InvalidNumbers, InvalidPlaces, NotEights
from owncontraries.fours import is_by_fours
from owncontraries.limits import can_be, fours_greatest, fours_limit, greatest, limit, shadow_of
from owncontraries.rooms import Room
from owncontraries.shadows import shadow_row
from owncontraries.sums import sums
from owncontraries.weights import least, row
from tests.checks import Checks
from tests.drawn import GOLAY_WORDS, drawn_fours_rooms, drawn_own_rooms, own_rooms, own_rooms_of, pair_words
from tests.polynomials import plain_fours_row, plain_row, plain_shadow_numbers
from tests.values import AT_LEAST_ZERO, BELOW_ZERO, NO_EVENS, NO_NUMBER_LISTS, NO_NUMBERS

EVENS = list(range(2, 25, 2))
EIGHTS = [8, 16, 24]
NO_EIGHTS = [places for places in EVENS if places % 8]


def drawn_numbers(places):
    """INTEGERS of sums for so many places: whole and broken shadow numbers come of them."""
    chance = random.Random(places)
    most = places // 8
    yield [1] + [0] * most
    yield [0] * (most + 1)
    for _ in range(12):
        yield [chance.randrange(-20, 21) for _ in range(most + 1)]
        yield [chance.randrange(-20, 21) * 4 ** j for j in range(most + 1)]
        yield [chance.randrange(-20, 21) * 2 ** j for j in range(most + 1)]


def some_own_rooms():
    """Own rooms of 2 to 24 places."""
    yield from own_rooms()
    yield from drawn_own_rooms(94, EVENS * 2)
    yield from own_rooms_of(6)


class TestExamples(unittest.TestCase):
    def test_the_examples_of_the_interface(self):
        told = [shadow_of(4, [1]), shadow_of(8, [1, -4]), shadow_of(10, [1, -5])]
        told += [can_be([1, 0, 0, 0, 15, 0, 15, 0, 0, 0, 1]), can_be([1, 0, 2, 0, 1])]
        self.assertEqual(repr(told), "[[0, 0, 4, 0, 0], [1, 0, 0, 0, 14, 0, 0, 0, 1], None, False, True]")
        told = [limit(10), fours_limit(24), greatest(8), fours_greatest(24)]
        self.assertEqual(repr(told), "[4, 8, [1, -4], [1, -42]]")


class TestShadowOf(Checks):
    def test_against_the_polynomials(self):
        broken, below = 0, 0
        for places in EVENS:
            for numbers in drawn_numbers(places):
                wanted = plain_shadow_numbers(places, numbers)
                told = self.asked(shadow_of, places=places, numbers=numbers)
                self.assertEqual(shadow_of(places, tuple(numbers)), told)
                if any(Fraction(number).denominator > 1 for number in wanted):
                    broken += 1
                    self.assertIsNone(told)
                else:
                    below += min(wanted) < 0
                    self.assertEqual((told, type(told)), (wanted, list))
                    self.assertEqual({type(number) for number in told}, {int})
        self.assertGreater(broken, 50)
        self.assertGreater(below, 50)

    def test_the_shadow_row_of_own_rooms(self):
        for room in some_own_rooms():
            self.assertEqual(shadow_of(room.places, sums(row(room))), shadow_row(room))

    def test_the_example_of_the_document(self):
        self.assertEqual(plain_shadow_numbers(10, [1, -5])[9], Fraction(5, 2))
        self.assertIsNone(shadow_of(10, [1, -5]))

    def test_wrong_values(self):
        for places in EVENS:
            right = [1] * (places // 8 + 1)
            lists = [right[:-1], right + [0], right[:-1] + [True], right[:-1] + [None], [right], right + [0] * 24]
            lists += NO_NUMBERS + BELOW_ZERO + AT_LEAST_ZERO + [[], (), tuple(right) + (0,), ["1"] * len(right)]
            wrong = {"places": (InvalidPlaces, NO_EVENS), "numbers": (InvalidNumbers, lists)}
            self.check_wrong(shadow_of, {"places": places, "numbers": right}, wrong)


class TestLimits(Checks):
    def check_bound(self, function, places, wanted):
        told = self.asked(function, places=places)
        self.assertEqual((told, type(told)), (wanted, int))

    def test_all_places(self):
        for places, wanted in zip(EVENS, [2, 2, 2, 4, 4, 4, 4, 6, 6, 6, 6, 8]):
            self.check_bound(limit, places, wanted)
        for places, wanted in zip(EIGHTS, [4, 4, 8]):
            self.check_bound(fours_limit, places, wanted)

    def test_own_rooms_keep_to_them(self):
        for room in list(some_own_rooms()) + list(drawn_fours_rooms(95, EIGHTS)):
            self.assertLessEqual(least(room), limit(room.places))
            if is_by_fours(room):
                self.assertLessEqual(least(room), fours_limit(room.places))
        self.assertEqual(least(Room(24, GOLAY_WORDS)), fours_limit(24))

    def test_wrong_places(self):
        for function in [limit, fours_limit, greatest, fours_greatest]:
            self.check_wrong(function, {"places": 8}, {"places": (InvalidPlaces, NO_EVENS)})

    def test_places_that_8_does_not_divide(self):
        for places in NO_EIGHTS:
            for function in [fours_limit, fours_greatest]:
                self.check_error(NotEights, {}, function, places=places)
            limit(places)
            greatest(places)


class TestGreatest(Checks):
    def test_the_first_number_and_the_noughts(self):
        for places in EVENS:
            told = self.asked(greatest, places=places)
            self.assertEqual((type(told), len(told), told[0]), (list, places // 8 + 1, 1))
            self.assertEqual({type(number) for number in told}, {int})
            self.assertEqual(plain_row(places, told)[:2 * (places // 8) + 1], [1] + [0] * (2 * (places // 8)))

    def test_the_first_number_and_the_noughts_by_fours(self):
        for places in EIGHTS:
            told = self.asked(fours_greatest, places=places)
            self.assertEqual((type(told), len(told), told[0]), (list, places // 24 + 1, 1))
            self.assertEqual({type(number) for number in told}, {int})
            self.assertEqual(plain_fours_row(places, told)[:4 * (places // 24) + 1], [1] + [0] * (4 * (places // 24)))

    def test_known_ones(self):
        self.assertEqual([greatest(places) for places in [2, 4, 6, 10, 12]], [[1], [1], [1], [1, -5], [1, -6]])
        self.assertEqual([greatest(16), greatest(24)], [[1, -8, -12], [1, -12, 6, -64]])
        self.assertEqual([fours_greatest(8), fours_greatest(16)], [[1], [1]])
        self.assertEqual(row(Room(24, GOLAY_WORDS)), plain_fours_row(24, fours_greatest(24)))

    def test_copies(self):
        for places in EVENS:
            self.check_new(greatest, places)
        for places in EIGHTS:
            self.check_new(fours_greatest, places)
        self.check_new(shadow_of, 8, [1, -4])
        factors = [1, -4]
        shadow_of(8, factors)
        self.assertEqual(factors, [1, -4])


class TestCanBe(Checks):
    def check_can_be(self, numbers, wanted):
        self.assertIs(self.truth(can_be, numbers=numbers), wanted)
        self.assertIs(can_be(tuple(numbers)), wanted)

    def test_rows_of_own_rooms(self):
        for room in list(some_own_rooms()) + list(drawn_fours_rooms(96, EIGHTS)):
            self.check_can_be(row(room), True)

    def test_of_no_sums(self):
        for places in EVENS:
            numbers = row(Room(places, pair_words(places)))
            for at in range(places + 1):
                self.check_can_be(numbers[:at] + [numbers[at] + 1] + numbers[at + 1:], False)
            self.check_can_be([1] + [0] * places, False)
            self.check_can_be([1] * (places + 1), False)

    def test_against_the_polynomials(self):
        found = {"below": 0, "broken": 0, "shadow below": 0, "good": 0}
        for places, most in [(8, 20), (10, 20), (12, 14), (16, 9), (20, 9), (24, 5)]:
            rest = [range(-most, most + 1)] * min(2, places // 8)
            for last in itertools.product(*rest):
                numbers = [1] + list(last) + [0] * (places // 8 - len(last))
                told = plain_row(places, numbers)
                shadow = plain_shadow_numbers(places, numbers)
                if min(told) < 0:
                    kind = "below"
                elif any(Fraction(number).denominator > 1 for number in shadow):
                    kind = "broken"
                elif min(shadow) < 0:
                    kind = "shadow below"
                else:
                    kind = "good"
                found[kind] += 1
                self.assertIs(can_be(told), kind == "good")
        self.assertTrue(all(many > 3 for many in found.values()), found)

    def test_one_of_each_kind(self):
        # a number below 0; its shadow numbers are COUNTS
        told, shadow = plain_row(8, [1, -8]), plain_shadow_numbers(8, [1, -8])
        self.assertEqual([told[2], min(shadow), {number.denominator for number in shadow}], [-4, 0, {1}])
        self.check_can_be(told, False)
        # shadow numbers that are no INTEGERS
        told = plain_row(10, [1, -5])
        self.assertGreaterEqual(min(told), 0)
        self.check_can_be(told, False)
        # a shadow number below 0, all whole
        told, shadow = plain_row(8, [4, 4]), plain_shadow_numbers(8, [4, 4])
        self.assertEqual([min(told), min(shadow), {number.denominator for number in shadow}], [0, -1, {1}])
        self.check_can_be(told, False)

    def test_the_first_number_need_not_be_1(self):
        for places in EVENS:
            self.check_can_be([0] * (places + 1), True)
            self.check_can_be(plain_row(places, [3] + [0] * (places // 8)), True)
            self.check_can_be(plain_row(places, [-1] + [0] * (places // 8)), False)

    def test_wrong_numbers(self):
        for good in [[1, 0, 1], [0] * 25, (1, 0, 2, 0, 1)]:
            self.check_wrong(can_be, {"numbers": good}, {"numbers": (InvalidNumbers, NO_NUMBER_LISTS)})
        for many in range(40):
            if many not in [places + 1 for places in EVENS]:
                self.check_error(InvalidNumbers, {"value": [0] * many}, can_be, numbers=[0] * many)


if __name__ == "__main__":
    unittest.main()
