"""Fill-ups of still rooms: one, how many, and all."""

import math
import unittest

from owncontraries.contraries import is_own, is_still
from owncontraries.errors import InvalidRoom, NotStill, TooMany
from owncontraries.fills import fill_count, filled, fills
from owncontraries.mixes import lies_in
from owncontraries.rooms import Room
from tests.checks import Checks
from tests.drawn import EIGHT_WORDS, GOLAY_WORDS, all_rooms, all_sums, even_words, lot_words, odd, own_rooms
from tests.drawn import own_word_sets, pair_words, still_rooms, units
from tests.values import NO_ROOMS

ALL_THREE = [filled, fill_count, fills]


def few_still_rooms():
    """All still rooms of up to five places, and drawn ones of six to eight."""
    for places in [1, 2, 3, 4, 5]:
        yield from [room for room in all_rooms(places) if is_still(room)]
    yield from still_rooms(24, [6, 6, 6, 7, 8, 8, 8, 8])


def large_still_rooms():
    """Still rooms of 9 to 24 places."""
    yield from still_rooms(25, [9, 10, 10])
    for places in range(9, 25):
        pairs = pair_words(places)
        for many in range(len(pairs) + 1):
            yield Room(places, pairs[:many])
    for places in [12, 16, 20, 24]:
        words = lot_words(places)
        for many in range(len(words)):
            yield Room(places, words[:many])
            yield Room(places, words[many:])
    for many in range(12):
        yield Room(24, GOLAY_WORDS[:many])
    yield Room(23, [15, 60, 102])


def told_count(room):
    """How many fill-ups point 25 tells."""
    if room.places % 2 == 1:
        return 0
    dimension = Room(room.places, room.basis() + [2 ** room.places - 1]).dimension
    return math.prod(2 ** step + 1 for step in range(1, room.places // 2 - dimension + 1))


class TestExamples(unittest.TestCase):
    def test_the_examples_of_the_interface(self):
        pair = Room(4, [3])
        told = [fills(Room(4, [])), fill_count(Room(8, [])), fill_count(pair), filled(pair), filled(Room(3, [3]))]
        told.append(fills(Room(5, [])))
        wanted = "[[Room(4, [9, 6]), Room(4, [10, 5]), Room(4, [12, 3])], 135, 1, Room(4, [12, 3]), None, []]"
        self.assertEqual(repr(told), wanted)


class TestFilled(Checks):
    def test_it_holds_the_room_and_is_own(self):
        for room in list(few_still_rooms()) + list(large_still_rooms()):
            told = self.asked(filled, room=room)
            if room.places % 2 == 1:
                self.assertIsNone(told)
                continue
            self.assertIsInstance(told, Room)
            self.assertEqual(told.places, room.places)
            self.assertIs(lies_in(room, told), True)
            self.assertIs(is_own(told), True)
            basis = told.basis()
            self.assertEqual(len(basis), room.places // 2)
            self.assertFalse(any(odd(word, other) for word in basis for other in basis))

    def test_an_own_room_is_its_own_fill_up(self):
        for room in own_rooms():
            self.assertEqual(filled(room), room)

    def test_odd_numbers_of_places(self):
        for places in range(1, 25, 2):
            for words in [[], pair_words(places)]:
                self.assertIsNone(filled(Room(places, words)))

    def test_even_numbers_of_places(self):
        for places in range(2, 25, 2):
            self.assertIs(is_own(filled(Room(places, []))), True)


class TestFillCount(Checks):
    def test_against_all_own_rooms_of_a_few_places(self):
        own = {places: own_word_sets(places) for places in [2, 4, 6, 8]}
        for room in few_still_rooms():
            words = set(all_sums(room.basis()))
            wanted = len([some for some in own.get(room.places, []) if words <= some])
            self.assertEqual(self.asked(fill_count, room=room), wanted)

    def test_as_the_document_tells(self):
        for room in list(few_still_rooms()) + list(large_still_rooms()):
            count = self.asked(fill_count, room=room)
            self.assertIs(type(count), int)
            self.assertEqual(count, told_count(room))

    def test_the_room_without_words_but_0(self):
        told = [fill_count(Room(places, [])) for places in range(2, 25, 2)]
        wanted = [math.prod(2 ** step + 1 for step in range(1, places // 2)) for places in range(2, 25, 2)]
        self.assertEqual(told, wanted)
        self.assertEqual(told[:7], [1, 3, 15, 135, 2295, 75735, 4922775])

    def test_the_word_of_all_places_makes_no_difference(self):
        for places in range(2, 25, 2):
            self.assertEqual(fill_count(Room(places, [2 ** places - 1])), fill_count(Room(places, [])))
        self.assertEqual([fill_count(Room(8, [15])), fill_count(Room(8, [15, 240]))], [15, 15])

    def test_own_rooms_have_one(self):
        for room in own_rooms():
            self.assertEqual(fill_count(room), 1)

    def test_odd_numbers_of_places(self):
        for places in range(1, 25, 2):
            for words in [[], pair_words(places)]:
                count = fill_count(Room(places, words))
                self.assertEqual((count, type(count)), (0, int))


class TestFills(Checks):
    def test_against_all_own_rooms_of_a_few_places(self):
        own = {places: own_word_sets(places) for places in [2, 4, 6, 8]}
        for room in few_still_rooms():
            words = set(all_sums(room.basis()))
            told = self.asked(fills, room=room)
            self.assertIs(type(told), list)
            found = [Room(room.places, sorted(some)) for some in own.get(room.places, []) if words <= some]
            self.assertEqual(told, sorted(found, key=lambda one: one.basis()))

    def test_all_of_the_first_lengths(self):
        for places in [2, 4, 6, 8]:
            wanted = [Room(places, sorted(words)) for words in own_word_sets(places)]
            wanted = sorted(wanted, key=lambda one: one.basis())
            self.assertEqual(fills(Room(places, [])), wanted)
            self.assertEqual(fills(Room(places, [2 ** places - 1])), wanted)

    def test_rooms_of_more_places(self):
        for room in large_still_rooms():
            if told_count(room) > 15:
                continue
            told = self.asked(fills, room=room)
            bases = [one.basis() for one in told]
            self.assertEqual(bases, sorted(bases))
            self.assertEqual(len({tuple(basis) for basis in bases}), told_count(room))
            for one in told:
                self.assertIsInstance(one, Room)
                self.assertEqual([one.places, is_own(one), lies_in(room, one)], [room.places, True, True])
            if told:
                self.assertIn(filled(room), told)

    def test_own_rooms_have_themselves_alone(self):
        for room in own_rooms():
            self.assertEqual(self.asked(fills, room=room), [room])

    def just_enough(self):
        """Rooms that lack three dimensions of a fill-up's, with the word of all places and without it."""
        for places in range(8, 25, 2):
            pairs = pair_words(places)
            yield Room(places, pairs[: places // 2 - 4])
            yield Room(places, pairs[: places // 2 - 4] + [2 ** places - 1])
        yield Room(24, GOLAY_WORDS[:8] + [2 ** 24 - 1])
        yield Room(16, lot_words(16)[:4])

    def test_just_135(self):
        for room in self.just_enough():
            told = fills(room)
            bases = [one.basis() for one in told]
            self.assertEqual((len(told), fill_count(room)), (135, 135))
            self.assertEqual(bases, sorted(bases))
            self.assertEqual(len({tuple(basis) for basis in bases}), 135)
            for one in told[::9]:
                self.assertEqual([is_own(one), lies_in(room, one)], [True, True])

    def test_more_than_135(self):
        for places in range(10, 25, 2):
            for words in [[], [2 ** places - 1], pair_words(places)[: places // 2 - 5]]:
                self.check_error(TooMany, {"what": "rooms", "limit": 135}, fills, room=Room(places, words))
        for room in [Room(24, GOLAY_WORDS[:7] + [2 ** 24 - 1]), Room(10, []), Room(12, [15])]:
            self.check_error(TooMany, {"what": "rooms", "limit": 135}, fills, room=room)

    def test_odd_numbers_of_places(self):
        for places in range(1, 25, 2):
            for words in [[], pair_words(places)]:
                told = fills(Room(places, words))
                self.assertEqual((told, type(told)), ([], list))


class TestWrong(Checks):
    def test_wrong_rooms(self):
        for function in ALL_THREE:
            self.check_wrong(function, {"room": Room(2, [3])}, {"room": (InvalidRoom, NO_ROOMS)})

    def test_rooms_that_are_not_still(self):
        for places in range(1, 25):
            rooms = [Room(places, [1]), Room(places, units(places))]
            if places > 2:
                rooms += [Room(places, [7]), Room(places, [3, 5]), Room(places, even_words(places))]
            for room in rooms:
                for function in ALL_THREE:
                    self.check_error(NotStill, {}, function, room=room)

    def test_each_room_of_a_few_places_that_is_not_still(self):
        for places in [1, 2, 3, 4]:
            for room in all_rooms(places):
                words = all_sums(room.basis())
                if any(odd(word, other) for word in words for other in words):
                    for function in ALL_THREE:
                        self.check_error(NotStill, {}, function, room=room)


class TestCopies(Checks):
    def test_told_lists_are_new(self):
        for room in [Room(4, []), Room(8, [15]), Room(8, EIGHT_WORDS)]:
            self.check_new(fills, room)
            self.assertIsNot(fills(room), fills(room))

    def test_the_room_is_as_before(self):
        room = Room(8, [15])
        for function in ALL_THREE:
            function(room)
        filled(room).basis().append(1)
        fills(room)[0].basis().append(1)
        self.assertEqual(room, Room(8, [15]))
        self.assertEqual(filled(room), filled(Room(8, [15])))
        own = Room(4, [3, 12])
        filled(own).basis().append(1)
        self.assertEqual(own, Room(4, [3, 12]))


if __name__ == "__main__":
    unittest.main()
