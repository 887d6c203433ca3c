"""Rows of rooms, least weights, and the words of the least weight."""

import itertools
import math
import random
import unittest

from owncontraries.contraries import contrary
from owncontraries.errors import InvalidRoom, TooMany
from owncontraries.rooms import Room
from owncontraries.tables import changed, is_row
from owncontraries.weights import least, least_words, row
from tests.checks import Checks
from tests.drawn import EIGHT_WORDS, GOLAY_WORDS, all_sums, drawn_rooms, even_words, few_rooms, large_rooms, odd, ons
from tests.drawn import own_rooms, pair_words, row_by_words, units
from tests.values import NO_ROOMS

ALL_THREE = [row, least, least_words]

# unlike columns, each a place: the words whose places' columns and number sum up to 0 have no weight below 4
COLUMNS_OF_255 = [0, 1, 2, 3, 4, 5, 6, 7, 8, 9, 10, 11, 16, 18, 20, 24, 25, 26, 27, 29, 30, 31]
COLUMNS_OF_257 = [0, 1, 2, 3, 4, 5, 6, 7, 8, 9, 10, 11, 14, 28, 33, 35, 38, 39, 41, 42, 43, 44, 47, 60]


def room_of_columns(columns):
    """The room of the words with an even number of places on, whose columns sum up to 0."""
    checks = [sum(((column >> bit) & 1) << place for place, column in enumerate(columns)) for bit in range(6)]
    return contrary(Room(len(columns), checks + [2 ** len(columns) - 1]))


def rooms_gone_through():
    """Rooms of not too many words."""
    yield from few_rooms()
    yield from drawn_rooms(37, [9, 10, 11, 12], 9)
    yield from drawn_rooms(38, [16, 20, 23, 24], 11)


def rooms_of_great_dimension():
    """Rooms of 13 to 24 places, the contraries of which have few words."""
    for places in range(13, 25):
        for few in [[], [1], [2 ** places - 1], [15, 51], [7, 56, 73]]:
            yield Room(places, few), contrary(Room(places, few))
    for room in drawn_rooms(39, [18, 23, 24], 10):
        yield room, contrary(room)


class TestExamples(unittest.TestCase):
    def test_the_examples_of_the_interface(self):
        four, seven = Room(4, [3, 12]), Room(7, [7, 25, 42, 75])
        told = [row(four), least(four), least_words(four), row(seven), len(least_words(seven)), least(Room(3, []))]
        self.assertEqual(repr(told), "[[1, 0, 2, 0, 1], 2, [3, 12], [1, 0, 0, 7, 7, 0, 0, 1], 7, None]")


class TestRow(Checks):
    def test_against_words_gone_through(self):
        for room in rooms_gone_through():
            told = self.asked(row, room=room)
            self.assertIs(type(told), list)
            self.assertEqual({type(number) for number in told}, {int})
            self.assertEqual(told, row_by_words(room))
            self.assertIs(is_row(told), True)

    def test_each_dimension_of_a_few_places(self):
        for places in range(1, 11):
            for dimension in range(places + 1):
                room = Room(places, units(places)[:dimension])
                wanted = [math.comb(dimension, weight) for weight in range(places + 1)]
                self.assertEqual(row(room), wanted)

    def test_no_words_and_all_words(self):
        for places in range(1, 25):
            self.assertEqual(row(Room(places, [])), [1] + [0] * places)
            wanted = [math.comb(places, weight) for weight in range(places + 1)]
            self.assertEqual(row(Room(places, units(places))), wanted)

    def test_all_words_of_even_weight(self):
        for places in range(2, 25):
            wanted = [(1 - weight % 2) * math.comb(places, weight) for weight in range(places + 1)]
            self.assertEqual(row(Room(places, even_words(places))), wanted)

    def test_all_words_of_some_places(self):
        for places in range(12, 25):
            for many in range(places + 1):
                wanted = [math.comb(many, weight) for weight in range(places + 1)]
                self.assertEqual(row(Room(places, units(places)[places - many:])), wanted)

    def test_great_dimensions_by_the_contrary(self):
        for few, room in rooms_of_great_dimension():
            told = row(room)
            self.assertEqual(sum(told), 2 ** room.dimension)
            self.assertEqual(changed(row_by_words(few)), told)
            self.assertEqual(changed(told), row_by_words(few))

    def test_all_rooms_of_23_and_24_places(self):
        for room in large_rooms():
            told = row(room)
            self.assertEqual(sum(told), 2 ** room.dimension)
            self.assertEqual(changed(told), row(contrary(room)))

    def test_own_rooms(self):
        golay = [0] * 25
        golay[0], golay[8], golay[12], golay[16], golay[24] = 1, 759, 2576, 759, 1
        self.assertEqual(row(Room(24, GOLAY_WORDS)), golay)
        self.assertEqual(row(Room(8, EIGHT_WORDS)), [1, 0, 0, 0, 14, 0, 0, 0, 1])
        for room in own_rooms():
            self.assertEqual(changed(row(room)), row(room))


class TestLeast(Checks):
    def test_against_words_gone_through(self):
        for room in rooms_gone_through():
            words = all_sums(room.basis())
            told = self.asked(least, room=room)
            if len(words) == 1:
                self.assertIsNone(told)
            else:
                self.assertIs(type(told), int)
                self.assertEqual(told, min(ons(word) for word in words if word))

    def test_told_ones(self):
        for places in range(1, 25):
            self.assertIsNone(least(Room(places, [])))
            self.assertEqual(least(Room(places, [2 ** places - 1])), places)
            self.assertEqual(least(Room(places, units(places))), 1)
            if places > 1:
                self.assertEqual(least(Room(places, even_words(places))), 2)
        self.assertEqual([least(Room(24, GOLAY_WORDS)), least(Room(8, EIGHT_WORDS))], [8, 4])

    def test_great_dimensions(self):
        for few, room in rooms_of_great_dimension():
            lowest = least(room)
            fewer = [word for many in range(1, lowest + 1) for word in self.words_of_weight(room.places, many)]
            self.assertEqual(min(ons(word) for word in fewer if room.has(word)), lowest)

    def words_of_weight(self, places, many):
        return [sum(some) for some in itertools.combinations(units(places), many)]


class TestLeastWords(Checks):
    def check_too_many(self, room):
        self.check_error(TooMany, {"what": "words", "limit": 255}, least_words, room=room)

    def test_against_words_gone_through(self):
        for room in rooms_gone_through():
            words = [word for word in all_sums(room.basis()) if word]
            lowest = min([ons(word) for word in words], default=None)
            wanted = sorted(word for word in words if ons(word) == lowest)
            self.assertLess(len(wanted), 256)
            told = self.asked(least_words, room=room)
            self.assertIs(type(told), list)
            self.assertEqual(told, wanted)

    def test_great_dimensions(self):
        for few, room in rooms_of_great_dimension():
            lowest = least(room)
            found = [sum(some) for some in itertools.combinations(units(room.places), lowest)]
            wanted = sorted(word for word in found if not any(odd(word, other) for other in few.basis()))
            if len(wanted) > 255:
                self.check_too_many(room)
            else:
                self.assertEqual(least_words(room), wanted)

    def test_told_ones(self):
        for places in range(1, 25):
            self.assertEqual(least_words(Room(places, [])), [])
            self.assertEqual(least_words(Room(places, [2 ** places - 1])), [2 ** places - 1])
            self.assertEqual(least_words(Room(places, units(places))), units(places))
            self.assertEqual(least_words(Room(places, pair_words(places))), pair_words(places))

    def test_just_255_words(self):
        room = room_of_columns(COLUMNS_OF_255)
        told = self.asked(least_words, room=room)
        self.assertEqual((least(room), row(room)[4], len(told)), (4, 255, 255))
        self.assertEqual(told, sorted(set(told)))
        self.assertEqual({(ons(word), room.has(word)) for word in told}, {(4, True)})

    def test_253_words(self):
        told = least_words(Room(24, even_words(23)))
        self.assertEqual(told, sorted(sum(some) for some in itertools.combinations(units(23), 2)))

    def test_more_than_255_words(self):
        room = room_of_columns(COLUMNS_OF_257)
        self.assertEqual((least(room), row(room)[4]), (4, 257))
        self.check_too_many(room)
        self.check_too_many(Room(24, even_words(24)))
        self.check_too_many(Room(24, GOLAY_WORDS))

    def test_more_words_of_other_weights_do_not_matter(self):
        # 24 words of the weight 1, 276 of the weight 2
        self.assertEqual(least_words(Room(24, units(24))), units(24))
        chance = random.Random(40)
        for _ in range(3):
            room = Room(24, [1] + [chance.randrange(2 ** 23) << 1 for _ in range(15)])
            if row(room)[1] == 1:
                self.assertEqual(least_words(room), [1])


class TestWrong(Checks):
    def test_wrong_rooms(self):
        for function in ALL_THREE:
            self.check_wrong(function, {"room": Room(2, [3])}, {"room": (InvalidRoom, NO_ROOMS)})


class TestCopies(Checks):
    def test_told_lists_are_new(self):
        for room in [Room(4, [3, 12]), Room(3, [7]), Room(4, [1, 2, 4]), Room(24, units(24))]:
            for function in [row, least_words]:
                self.check_new(function, room)
                self.assertIsNot(function(room), function(room))
        empty = Room(3, [])
        least_words(empty).append(1)
        self.assertEqual((least_words(empty), row(empty)), ([], [1, 0, 0, 0]))

    def test_the_room_is_as_before(self):
        room = Room(4, [3, 12])
        for function in ALL_THREE:
            function(room)
        row(room).append(1)
        least_words(room).append(1)
        self.assertEqual((room, room.words()), (Room(4, [3, 12]), [0, 3, 12, 15]))


if __name__ == "__main__":
    unittest.main()
