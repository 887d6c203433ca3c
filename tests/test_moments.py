"""Moments of rows, and walks."""

import itertools
import math
import random
import unittest

from owncontraries.contraries import contrary
from owncontraries.errors import InvalidAt, InvalidPlaces, InvalidPower, InvalidRow
from owncontraries.moments import moment, walks
from owncontraries.rooms import Room
from owncontraries.weights import least, row
from tests.checks import Checks
from tests.drawn import EIGHT_WORDS, GOLAY_WORDS, all_sums, drawn_rooms, drawn_rows, few_rooms, large_rooms, ons
from tests.drawn import own_rooms, row_by_words
from tests.values import NO_COUNTS, NO_PLACES, NO_ROWS

POWERS = list(range(13))
NO_POWERS = NO_COUNTS + [13, 14, 24, 25, 999999, 10 ** 29]


def told_moment(numbers, power):
    """The moment, a product of the single factors for each number."""
    places = len(numbers) - 1
    return sum(number * math.prod([places - 2 * at] * power) for at, number in enumerate(numbers))


def ways_to_words(places, power):
    """How many ways come to each word, gone one place after another."""
    ways = {0: 1}
    for _ in range(power):
        longer = {}
        for word, number in ways.items():
            for place in range(places):
                other = word ^ 2 ** place
                longer[other] = longer.get(other, 0) + number
        ways = longer
    return ways


class TestExamples(unittest.TestCase):
    def test_the_examples_of_the_interface(self):
        told = [moment([1, 0, 2, 0, 1], 2), moment([1, 0, 0, 1], 0), walks(4, 0, 2), walks(4, 2, 2), walks(4, 1, 3)]
        told.append(walks(4, 1, 2))
        self.assertEqual(repr(told), "[32, 2, 4, 2, 10, 0]")


class TestMoment(Checks):
    def check_moment(self, numbers, power, wanted):
        told = self.asked(moment, row=numbers, power=power)
        self.assertIs(type(told), int)
        self.assertEqual(told, wanted)

    def test_against_words_gone_through(self):
        for room in list(few_rooms())[::3] + list(drawn_rooms(41, [9, 10, 16, 23, 24], 8)):
            numbers, weights = row_by_words(room), [ons(word) for word in all_sums(room.basis())]
            for power in POWERS:
                wanted = sum((room.places - 2 * weight) ** power for weight in weights)
                self.check_moment(numbers, power, wanted)

    def test_rows_that_no_room_has(self):
        for numbers in drawn_rows():
            for power in POWERS:
                self.check_moment(numbers, power, told_moment(numbers, power))
        self.check_moment([1, 0, 1, 2], 1, 3 - 1 - 6)
        self.check_moment([1, 0, 1, 2], 3, 27 - 1 - 54)

    def test_tuples(self):
        for power in POWERS:
            self.check_moment((1, 0, 2, 0, 1), power, told_moment([1, 0, 2, 0, 1], power))

    def test_the_power_0_and_the_middle(self):
        for room in own_rooms():
            numbers = row(room)
            self.check_moment(numbers, 0, 2 ** room.dimension)
            # the number at the middle counts for the power 0 alone
            half = room.places // 2
            without = sum(number for at, number in enumerate(numbers) if at != half)
            self.assertEqual(moment(numbers, 0) - without, numbers[half])
        self.check_moment([1, 1, 0], 0, 2)
        self.check_moment([1, 1, 0], 1, 2)
        self.check_moment([1, 1, 2], 0, 4)
        self.check_moment([1, 1, 2], 1, -2)

    def test_least_and_greatest(self):
        for places in range(1, 25):
            for power in POWERS:
                self.check_moment([1] + [0] * places, power, places ** power)
                full = [math.comb(places, at) for at in range(places + 1)]
                self.check_moment(full, power, 2 ** places * walks(places, 0, power))

    def test_wrong_values(self):
        wrong = {"row": (InvalidRow, NO_ROWS), "power": (InvalidPower, NO_POWERS)}
        self.check_wrong(moment, {"row": [1, 0, 1], "power": 2}, wrong)
        self.check_wrong(moment, {"row": (1,) + (0,) * 24, "power": 12}, wrong)
        self.check_wrong(moment, {"row": [1, 0], "power": 0}, wrong)

    def test_just_up_to_12(self):
        self.check_moment([1, 0, 1], 12, 2 * 2 ** 12)
        self.check_error(InvalidPower, {"value": 13}, moment, row=[1, 0, 1], power=13)
        self.check_error(InvalidPower, {"value": -1}, moment, row=[1, 0, 1], power=-1)


class TestWalks(Checks):
    def check_walks(self, places, weight, power, wanted):
        told = self.asked(walks, places=places, weight=weight, power=power)
        self.assertIs(type(told), int)
        self.assertEqual(told, wanted)

    def test_against_ways_gone_one_by_one(self):
        for places, most in [(1, 8), (2, 8), (3, 7), (4, 6), (5, 5)]:
            for power in range(most + 1):
                ends = []
                for way in itertools.product(range(places), repeat=power):
                    ends.append(sum(2 ** place for place in range(places) if way.count(place) % 2 == 1))
                for word in range(2 ** places):
                    self.assertEqual(walks(places, ons(word), power), ends.count(word))

    def test_against_ways_to_words(self):
        for places in range(1, 11):
            for power in POWERS:
                ways = ways_to_words(places, power)
                for weight in range(places + 1):
                    self.check_walks(places, weight, power, ways.get(2 ** weight - 1, 0))

    def test_to_all_words_together(self):
        for places in range(1, 25):
            for power in POWERS:
                told = [walks(places, weight, power) for weight in range(places + 1)]
                self.assertEqual(sum(math.comb(places, at) * number for at, number in enumerate(told)), places ** power)

    def test_the_power_0(self):
        for places in range(1, 25):
            for weight in range(places + 1):
                self.check_walks(places, weight, 0, 1 if weight == 0 else 0)
                self.check_walks(places, weight, 1, 1 if weight == 1 else 0)

    def test_the_wrong_evenness_and_too_few_places(self):
        for places in range(1, 25):
            for power in POWERS:
                for weight in range(places + 1):
                    comes = weight <= power and (power - weight) % 2 == 0
                    self.assertIs(walks(places, weight, power) > 0, comes)
                if power <= places:
                    self.check_walks(places, power, power, math.factorial(power))

    def test_wrong_values(self):
        for places, weight, power in [(4, 2, 2), (1, 0, 0), (24, 24, 12)]:
            wrong = {
                "places": (InvalidPlaces, NO_PLACES),
                "weight": (InvalidAt, NO_COUNTS + [places + 1, places + 2, 25, 10 ** 29]),
                "power": (InvalidPower, NO_POWERS),
            }
            self.check_wrong(walks, {"places": places, "weight": weight, "power": power}, wrong)

    def test_just_up_to_the_places_and_12(self):
        for places in range(1, 25):
            self.check_walks(places, places, 12, walks(places, places, 12))
            self.check_error(InvalidAt, {"value": places + 1}, walks, places=places, weight=places + 1, power=12)
            self.check_error(InvalidPower, {"value": 13}, walks, places=places, weight=places, power=13)
            self.check_error(InvalidPower, {"value": -1}, walks, places=places, weight=0, power=-1)


class TestTwoWaysToOneNumber(Checks):
    def check_fact(self, room):
        numbers, others = row(room), row(contrary(room))
        for power in POWERS:
            ways = sum(number * walks(room.places, at, power) for at, number in enumerate(others))
            self.assertEqual(moment(numbers, power), 2 ** room.dimension * ways)

    def test_rooms_and_their_contraries(self):
        for room in list(few_rooms())[::3] + list(own_rooms()) + list(large_rooms())[::6]:
            self.check_fact(room)
            self.check_fact(contrary(room))

    def test_no_words_of_small_weights_in_the_contrary(self):
        chance = random.Random(36)
        rooms = [Room(24, GOLAY_WORDS), Room(8, EIGHT_WORDS), Room(16, [2 ** 16 - 1])]
        rooms += [Room(12, [chance.randrange(2 ** 12) for _ in range(4)]) for _ in range(20)]
        for room in rooms:
            other = contrary(room)
            for power in range(min(13, least(room))):
                self.assertEqual(moment(row(other), power), 2 ** other.dimension * walks(room.places, 0, power))

    def test_copies(self):
        numbers = [1, 0, 2, 0, 1]
        told = [moment(numbers, power) for power in POWERS]
        self.assertEqual(numbers, [1, 0, 2, 0, 1])
        self.assertEqual([moment(numbers, power) for power in POWERS], told)


if __name__ == "__main__":
    unittest.main()
