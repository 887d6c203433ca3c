"""Lists of INTEGERS whose odd ones stand at the places of a word of a room."""

import itertools
import random
import unittest

from owncontraries.contraries import is_own
from owncontraries.errors import InvalidRoom, InvalidSize
from owncontraries.fours import is_by_fours
from owncontraries.halves import is_vector, vector_row, vectors
from owncontraries.rooms import Room
from tests.checks import Checks
from tests.drawn import EIGHT_WORDS, GOLAY_WORDS, all_rooms, all_sums, drawn_own_rooms, drawn_rooms, own_rooms
from tests.drawn import pair_words, row_by_words, units
from tests.values import AT_LEAST_ZERO, BELOW_ZERO, NO_COUNTS, NO_INTEGERS, NO_ROOMS, Plain

TWO = Room(2, [3])


def odd_places(numbers):
    """The word of the places of the odd ones."""
    return sum(2 ** place for place, number in enumerate(numbers) if number % 2)


def plain_row(room, most, root=4):
    """How many lists have each size up to the most, all lists gone through one by one."""
    words = all_sums(room.basis())
    found = [0] * (most + 1)
    for numbers in itertools.product(range(-root, root + 1), repeat=room.places):
        size = sum(number * number for number in numbers)
        if size <= most and odd_places(numbers) in words:
            found[size] += 1
    return found


def ways(odd, even, most):
    """The ways to write each size up to the most as a sum of so many odd squares and so many even ones."""
    found = {0: 1}
    for first, many in [(1, odd), (0, even)]:
        for _ in range(many):
            larger = {}
            for size, number in found.items():
                for root in range(-6 + first, 7, 2):
                    if size + root * root <= most:
                        larger[size + root * root] = larger.get(size + root * root, 0) + number
            found = larger
    return [found.get(size, 0) for size in range(most + 1)]


def row_by_weights(room, most):
    """The same numbers by the row of the room, as point 86 tells."""
    found = [0] * (most + 1)
    for weight, number in enumerate(row_by_words(room)):
        if number:
            told = ways(weight, room.places - weight, most)
            found = [total + number * many for total, many in zip(found, told)]
    return found


class TestExamples(unittest.TestCase):
    def test_the_examples_of_the_interface(self):
        two, eight = Room(2, [3]), Room(8, [15, 60, 240, 170])
        told = [vector_row(two, 8), vectors(eight, 4), vectors(eight, 2), is_vector(two, [3, -1])]
        told += [is_vector(two, (2, 1)), is_vector(two, [0, 0, 0])]
        self.assertEqual(repr(told), "[[1, 0, 4, 0, 4, 0, 0, 0, 4], 240, 0, True, False, False]")


class TestVectors(Checks):
    def check_row(self, room, wanted):
        told = self.asked(vector_row, room=room, most=len(wanted) - 1)
        self.assertIs(type(told), list)
        self.assertEqual({type(number) for number in told}, {int})
        self.assertEqual(told, wanted)

    def check_each(self, room, wanted):
        for size, number in enumerate(wanted):
            told = self.asked(vectors, room=room, size=size)
            self.assertEqual((told, type(told)), (number, int))

    def test_few_places_against_all_lists(self):
        for places in [1, 2, 3]:
            for room in all_rooms(places):
                wanted = plain_row(room, 24)
                self.check_row(room, wanted)
                self.check_each(room, wanted)
        for room in list(drawn_rooms(161, [4], 4)) + [Room(4, [3, 12]), Room(4, [15])]:
            self.check_row(room, plain_row(room, 24))
        for room in [Room(6, [7, 56]), Room(6, pair_words(6)), Room(6, [63, 1])]:
            self.check_row(room, plain_row(room, 8, 2))

    def test_by_the_row(self):
        rooms = list(drawn_rooms(162, [5, 8, 11])) + list(drawn_rooms(163, [17, 24], 8)) + list(own_rooms())
        for room in rooms:
            self.check_row(room, row_by_weights(room, 24))

    def test_each_size_and_each_most(self):
        for room in [Room(5, [7, 24]), Room(8, EIGHT_WORDS), Room(24, GOLAY_WORDS), Room(24, [])]:
            wanted = row_by_weights(room, 24)
            self.check_each(room, wanted)
            for most in range(25):
                self.check_row(room, wanted[:most + 1])

    def test_eight_places(self):
        told = vector_row(Room(8, EIGHT_WORDS), 24)
        # half the sizes are those of the lattice e8
        self.assertEqual(told[::4], [1, 240, 2160, 6720, 17520, 30240, 60480])
        self.assertEqual([number for size, number in enumerate(told) if size % 4], [0] * 18)
        self.assertEqual(vectors(Room(8, EIGHT_WORDS), 4), 240)

    def test_sizes_of_own_rooms(self):
        for room in list(own_rooms()) + list(drawn_own_rooms(164, [10, 14, 18])):
            step = 4 if is_by_fours(room) else 2
            for size, number in enumerate(vector_row(room, 24)):
                if size % step:
                    self.assertEqual(number, 0)
            self.assertIs(is_own(room), True)

    def test_rooms_that_are_not_own(self):
        self.check_row(Room(1, []), [1, 0, 0, 0, 2])
        self.check_row(Room(1, [1]), [1, 2, 0, 0, 2, 0, 0, 0, 0, 2])
        self.check_row(Room(2, [1]), [1, 2, 0, 0, 4, 4])
        self.check_row(Room(3, [7]), plain_row(Room(3, [7]), 24))

    def test_of_all_words(self):
        for places in [10, 17, 24]:
            wanted = [1] + [0] * 24
            for _ in range(places):
                roots = [(root * root, root) for root in range(-4, 5)]
                wanted = [sum(wanted[size - square] for square, root in roots if square <= size) for size in range(25)]
            self.check_row(Room(places, units(places)), wanted)

    def test_the_sizes_0_and_24(self):
        for room in [TWO, Room(1, [1]), Room(24, [2 ** 24 - 1]), Room(23, []), Room(9, units(9))]:
            self.check_row(room, [1])
            self.assertEqual(vectors(room, 0), 1)
            self.assertEqual(vectors(room, 24), row_by_weights(room, 24)[24])
        # each place odd, 1 or -1; or six of the others 2 or -2
        self.assertEqual(vectors(Room(24, [2 ** 24 - 1]), 24), 2 ** 24 + 134596 * 2 ** 6 + 24 * 23 * 22 // 2 * 8)


class TestIsVector(Checks):
    def check_lets(self, room, value, wanted):
        with self.subTest(room=room, value=repr(value)[:200]):
            self.assertIs(self.truth(is_vector, room=room, value=value), wanted)

    def test_all_lists_of_few_places(self):
        for places in [1, 2, 3]:
            for room in all_rooms(places):
                words = all_sums(room.basis())
                for numbers in itertools.product(range(-3, 4), repeat=places):
                    self.assertIs(is_vector(room, list(numbers)), odd_places(numbers) in words)
                    self.assertIs(is_vector(room, numbers), odd_places(numbers) in words)

    def test_sums_and_differences(self):
        chance = random.Random(165)
        for room in list(drawn_own_rooms(166, [8, 12, 24])) + list(drawn_rooms(167, [5, 9, 23], 6)):
            words = all_sums(room.basis())
            lists = []
            for _ in range(6):
                word = chance.choice(words)
                lists.append([2 * chance.randrange(-50, 50) + (word >> place & 1) for place in range(room.places)])
            for first, second in itertools.product(lists, repeat=2):
                self.check_lets(room, first, True)
                self.check_lets(room, tuple(a + b for a, b in zip(first, second)), True)
                self.check_lets(room, [a - b for a, b in zip(first, second)], True)
                if is_own(room):
                    self.assertEqual(sum(a * b for a, b in zip(first, second)) % 2, 0)
            lacking = [word for word in range(2 ** min(room.places, 6)) if word not in words][:5]
            for word in lacking:
                self.check_lets(room, [word >> place & 1 for place in range(room.places)], False)
                self.check_lets(room, [-3 * (word >> place & 1) for place in range(room.places)], False)

    def test_below_zero(self):
        for value in [[-1, -1], [-1, 3], (5, -999999), [-2, 4], (0, -24)]:
            self.check_lets(TWO, value, True)
        for value in [[-1, 0], [0, -1], (-2, -3), [999999, -4]]:
            self.check_lets(TWO, value, False)

    def test_large_numbers(self):
        self.check_lets(TWO, [10 ** 29 + 1, 1 - 10 ** 29], True)
        self.check_lets(TWO, [10 ** 29 + 1, 10 ** 29], False)

    def test_too_few_and_too_many(self):
        for many in [0, 1, 3, 4, 24, 25, 200]:
            for number in [0, 1, 2]:
                self.check_lets(TWO, [number] * many, False)
                self.check_lets(TWO, (number,) * many, False)
        for places in range(1, 25):
            self.check_lets(Room(places, []), [0] * places, True)
            self.check_lets(Room(places, []), [0] * (places - 1), False)
            self.check_lets(Room(places, []), [0] * (places + 1), False)

    def test_values_of_all_other_kinds(self):
        for value in NO_INTEGERS + BELOW_ZERO + AT_LEAST_ZERO + ["31", b"\x01\x01", range(2), {0: 1, 1: 1}, {1, 3}]:
            if value not in [[0, 1], (1, 0)]:
                self.check_lets(TWO, value, False)
                self.check_lets(Room(1, []), value, False)
        for value in [[True, True], [1, True], (False, 0), [None, 1], ["1", "1"], [[1], [1]], [1, Plain()], [TWO, TWO]]:
            self.check_lets(TWO, value, False)
            self.check_lets(Room(2, units(2)), value, False)


class TestWrong(Checks):
    def test_wrong_values(self):
        wrong_sizes = NO_COUNTS + [25, 26, 999999, 10 ** 29]
        for room in [TWO, Room(3, [7]), Room(24, GOLAY_WORDS)]:
            wrong = {"room": (InvalidRoom, NO_ROOMS), "size": (InvalidSize, wrong_sizes)}
            self.check_wrong(vectors, {"room": room, "size": 4}, wrong)
            wrong = {"room": (InvalidRoom, NO_ROOMS), "most": (InvalidSize, wrong_sizes)}
            self.check_wrong(vector_row, {"room": room, "most": 4}, wrong)
            self.check_wrong(is_vector, {"room": room, "value": [1, 1]}, {"room": (InvalidRoom, NO_ROOMS)})


class TestCopies(Checks):
    def test_told_lists_are_new(self):
        for room in [TWO, Room(8, EIGHT_WORDS)]:
            self.check_new(vector_row, room, 8)
            self.check_new(vector_row, room, 0)

    def test_nothing_that_is_passed_is_changed(self):
        value = [3, -1]
        is_vector(TWO, value)
        self.assertEqual(value, [3, -1])


if __name__ == "__main__":
    unittest.main()
