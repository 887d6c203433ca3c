"""Rooms by fours, fours halves, and own rooms by fours over rooms by fours."""

import math
import unittest

from owncontraries.contraries import is_own, is_still
from owncontraries.errors import InvalidRoom, NotByFours, NotStill, TooMany
from owncontraries.fours import fours_count, fours_fills, fours_filled, fours_half, is_by_fours, why_not_fours
from owncontraries.mixes import lies_in
from owncontraries.rooms import Room
from tests.checks import Checks
from tests.drawn import EIGHT_WORDS, GOLAY_WORDS, all_rooms, all_sums, drawn_fours_rooms, drawn_own_rooms, few_rooms
from tests.drawn import large_rooms, lot_words, odd, ons, own_rooms, own_rooms_of, pair_words, still_rooms, units
from tests.values import NO_ROOMS

OVER = [fours_filled, fours_count, fours_fills]
ALL_SIX = OVER + [is_by_fours, why_not_fours, fours_half]


def words_by_fours(room):
    """Whether 4 divides the weight of each word, these gone through one by one."""
    return all(ons(word) % 4 == 0 for word in all_sums(room.basis()))


def fours_basis(room):
    """The same by the plain basis alone, for rooms of many words."""
    basis = room.basis()
    return all(ons(word) % 4 == 0 for word in basis) and not any(odd(word, other) for word in basis for other in basis)


def lacking(room):
    """How many dimensions the room with the word of all places lacks of half of the places."""
    return room.places // 2 - Room(room.places, room.basis() + [2 ** room.places - 1]).dimension


def told_count(room):
    """How many own rooms by fours point 54 tells."""
    if room.places % 8:
        return 0
    return math.prod(2 ** step + 1 for step in range(lacking(room)))


def parts_of(room):
    """The room of no words but 0, rooms of some of the room's basis words, and the room."""
    basis = room.basis()
    for many in range(len(basis) + 1):
        yield Room(room.places, basis[:many])
        yield Room(room.places, basis[many:])


def fours_rooms():
    """Rooms by fours of 1 to 24 places."""
    for places in range(1, 25):
        yield Room(places, [])
        yield Room(places, [15 << place for place in range(0, places - 3, 4)])
        yield Room(places, [15 << place for place in range(0, places - 3, 2)])
    yield from still_rooms(61, [4, 5, 6, 7, 8, 8, 8, 9, 10, 10], 4)
    for room in drawn_fours_rooms(62, [8, 16, 16, 24]):
        yield from parts_of(room)
    for room in [Room(8, EIGHT_WORDS), Room(16, lot_words(16)), Room(24, lot_words(24)), Room(24, GOLAY_WORDS)]:
        yield from parts_of(room)


def uneven_rooms():
    """Rooms that are not by fours."""
    yield from [room for room in few_rooms() if not words_by_fours(room)]
    yield from [room for room in still_rooms(63, [5, 6, 8, 9, 10]) if not words_by_fours(room)]
    for places in range(2, 25):
        yield Room(places, [3])
        yield Room(places, units(places))
        yield Room(places, [3, 2 ** places - 1])
    for places in range(7, 25):
        # weights of 4 alone, which meet in one place, in three
        yield Room(places, [15, 120])
        yield Room(places, [15, 23])


class TestExamples(unittest.TestCase):
    def test_the_examples_of_the_interface(self):
        eight, pairs = Room(8, [255, 15, 51, 85]), Room(4, [3, 12])
        told = [is_by_fours(eight), is_by_fours(pairs), fours_half(pairs) == Room(4, [15]), fours_half(eight) == eight]
        self.assertEqual(repr(told), "[True, False, True, True]")
        told = [fours_count(Room(8, [])), fours_count(Room(8, [15])), fours_fills(eight) == [eight]]
        told += [len(fours_fills(Room(8, [15]))), fours_count(Room(4, [15]))]
        self.assertEqual(repr(told), "[30, 6, True, 6, 0]")


class TestByFours(Checks):
    def check_told(self, room, wanted):
        self.assertIs(self.truth(is_by_fours, room=room), wanted)
        told = self.asked(why_not_fours, room=room)
        if wanted:
            self.assertIsNone(told)
        else:
            self.assertIs(type(told), int)
            self.assertIs(room.has(told), True)
            self.assertNotEqual(ons(told) % 4, 0)

    def test_against_words_gone_through(self):
        rooms = list(few_rooms()) + list(still_rooms(64, [6, 7, 8, 9, 10])) + list(still_rooms(65, [7, 8, 10], 4))
        rooms += list(own_rooms()) + list(drawn_own_rooms(66, [8, 12, 16])) + list(drawn_fours_rooms(67, [8, 16]))
        found = [words_by_fours(room) for room in rooms]
        self.assertGreater(found.count(True), 30)
        for room, wanted in zip(rooms, found):
            self.check_told(room, wanted)

    def test_rooms_by_fours_and_others(self):
        for room in fours_rooms():
            self.assertTrue(fours_basis(room))
            self.check_told(room, True)
        for room in uneven_rooms():
            self.check_told(room, False)

    def test_large_rooms(self):
        for room in large_rooms():
            self.check_told(room, fours_basis(room))

    def test_one_word_more(self):
        for room in [Room(8, EIGHT_WORDS), Room(16, lot_words(16)), Room(24, GOLAY_WORDS)]:
            for word in [3, 15, 23, 7, 1, 255, 2 ** room.places - 4]:
                more = Room(room.places, room.basis() + [word])
                self.check_told(more, room.has(word))

    def test_a_room_by_fours_is_still(self):
        for room in fours_rooms():
            self.assertIs(is_still(room), True)


class TestHalf(Checks):
    def test_against_words_gone_through(self):
        rooms = [room for room in few_rooms() if is_still(room)]
        rooms += list(still_rooms(68, [5, 6, 7, 8, 9, 10])) + list(still_rooms(69, [7, 8, 10], 4)) + list(own_rooms())
        rooms += list(drawn_own_rooms(70, [6, 10, 14, 18, 22, 24])) + list(drawn_fours_rooms(71, [8, 16, 24]))
        for room in rooms:
            told = self.asked(fours_half, room=room)
            self.assertIsInstance(told, Room)
            self.assertEqual(told.places, room.places)
            wanted = [word for word in all_sums(room.basis()) if ons(word) % 4 == 0]
            self.assertEqual(all_sums(told.basis()), wanted)

    def test_the_room_itself_or_one_dimension_less(self):
        for room in own_rooms():
            told = fours_half(room)
            if is_by_fours(room):
                self.assertEqual(told, room)
            else:
                self.assertEqual([told.dimension, lies_in(told, room)], [room.dimension - 1, True])
            self.assertIs(is_by_fours(told), True)
        for room in fours_rooms():
            self.assertEqual(fours_half(room), room)

    def test_rooms_that_are_not_still(self):
        for room in list(few_rooms()) + list(uneven_rooms()):
            if not is_still(room):
                self.check_error(NotStill, {}, fours_half, room=room)


class TestFilled(Checks):
    def test_own_and_by_fours_and_holding_the_room(self):
        for room in fours_rooms():
            told = self.asked(fours_filled, room=room)
            if room.places % 8:
                self.assertIsNone(told)
                continue
            self.assertIsInstance(told, Room)
            self.assertEqual([told.places, told.dimension], [room.places, room.places // 2])
            self.assertTrue(fours_basis(told))
            self.assertEqual([lies_in(room, told), is_own(told)], [True, True])

    def test_all_rooms_by_fours_of_eight_places(self):
        for room in all_fours_parts():
            told = fours_filled(room)
            self.assertEqual([lies_in(room, told), is_own(told), words_by_fours(told)], [True, True, True])

    def test_uneven_basis_words(self):
        # over these the first words that come are of weight 2, 6, ..
        for places in [8, 16, 24]:
            for words in [[], [2 ** places - 1], [15], [15, 240], [15 << places - 4]]:
                told = fours_filled(Room(places, words))
                self.assertTrue(fours_basis(told))
                self.assertEqual(told.dimension, places // 2)


def all_fours_parts():
    """Rooms by fours of eight places, made of words of the own ones."""
    for room in fours_eights():
        yield from parts_of(room)


def fours_eights():
    """All own rooms by fours of eight places."""
    return [room for room in own_rooms_of(8) if words_by_fours(room)]


class TestCountAndFills(Checks):
    def test_against_all_own_rooms_of_eight_places(self):
        eights = fours_eights()
        self.assertEqual(len(eights), 30)
        rooms = list(still_rooms(72, [8] * 6, 4)) + list(all_fours_parts())[::4]
        for room in rooms:
            words = set(all_sums(room.basis()))
            wanted = [one for one in eights if words <= set(all_sums(one.basis()))]
            told = self.asked(fours_fills, room=room)
            self.assertIs(type(told), list)
            self.assertEqual(told, sorted(wanted, key=lambda one: one.basis()))
            self.assertEqual(self.asked(fours_count, room=room), len(wanted))

    def test_as_the_document_tells(self):
        for room in fours_rooms():
            told = self.asked(fours_count, room=room)
            self.assertIs(type(told), int)
            self.assertEqual(told, told_count(room))

    def test_the_list_is_as_long_as_the_count(self):
        lengths = set()
        for room in list(fours_rooms()) + [Room(16, lot_words(16)[:4]), Room(24, GOLAY_WORDS[:9])]:
            count = told_count(room)
            if room.places % 8 or count > 30:
                continue
            told = self.asked(fours_fills, room=room)
            bases = [one.basis() for one in told]
            lengths.add((room.places, count))
            self.assertEqual((len(told), bases), (count, sorted(bases)))
            self.assertEqual(len({tuple(basis) for basis in bases}), count)
            for one in told:
                self.assertIsInstance(one, Room)
                self.assertEqual([one.places, is_own(one), lies_in(room, one)], [room.places, True, True])
                self.assertTrue(fours_basis(one))
            self.assertIn(fours_filled(room), told)
        wanted = {(places, count) for places in [8, 16, 24] for count in [1, 2, 6, 30]}
        self.assertEqual(lengths, wanted)

    def test_more_than_30(self):
        told = {"what": "rooms", "limit": 30}
        for room in fours_rooms():
            if told_count(room) > 30:
                self.check_error(TooMany, told, fours_fills, room=room)
        for room in [Room(16, lot_words(16)[:3] + [2 ** 16 - 1]), Room(24, GOLAY_WORDS[:7] + [2 ** 24 - 1])]:
            self.assertEqual(fours_count(room), 270)
            self.check_error(TooMany, told, fours_fills, room=room)

    def test_the_word_of_all_places_makes_no_difference(self):
        for places in [8, 16, 24]:
            self.assertEqual(fours_count(Room(places, [])), fours_count(Room(places, [2 ** places - 1])))
        self.assertEqual(fours_fills(Room(8, [])), fours_fills(Room(8, [255])))
        self.assertEqual([fours_count(Room(places, [])) for places in [8, 16]], [30, 9845550])

    def test_an_own_room_by_fours_is_its_own_only_one(self):
        rooms = [room for room in own_rooms() if fours_basis(room)] + list(drawn_fours_rooms(73, [8, 16, 24]))
        self.assertEqual({room.places for room in rooms}, {8, 16, 24})
        for room in rooms:
            self.assertEqual([fours_filled(room), fours_count(room), fours_fills(room)], [room, 1, [room]])

    def test_places_that_8_does_not_divide(self):
        for places in range(1, 25):
            if places % 8:
                for words in [[], [15 << place for place in range(0, places - 3, 2)]]:
                    room = Room(places, words)
                    told = [fours_filled(room), fours_count(room), fours_fills(room)]
                    self.assertEqual((told, type(told[1]), type(told[2])), ([None, 0, []], int, list))


class TestWrong(Checks):
    def test_wrong_rooms(self):
        for function in ALL_SIX:
            self.check_wrong(function, {"room": Room(8, [15])}, {"room": (InvalidRoom, NO_ROOMS)})

    def test_rooms_that_are_not_by_fours(self):
        for function in OVER:
            for room in uneven_rooms():
                self.check_error(NotByFours, {}, function, room=room)

    def test_own_rooms_and_rooms_of_four_places(self):
        for places in range(2, 25, 2):
            for function in OVER:
                self.check_error(NotByFours, {}, function, room=Room(places, pair_words(places)))
        for room in all_rooms(4):
            for function in OVER:
                if words_by_fours(room):
                    function(room)
                else:
                    self.check_error(NotByFours, {}, function, room=room)


class TestCopies(Checks):
    def test_told_lists_are_new(self):
        for room in [Room(8, []), Room(8, EIGHT_WORDS), Room(24, GOLAY_WORDS)]:
            self.check_new(fours_fills, room)
        told = fours_fills(Room(4, []))
        told.append(1)
        self.assertEqual(fours_fills(Room(4, [])), [])

    def test_the_room_is_as_before(self):
        room = Room(8, EIGHT_WORDS)
        for told in [fours_half(room), fours_filled(room), fours_fills(room)[0]]:
            told.basis().append(1)
        self.assertEqual(room, Room(8, EIGHT_WORDS))
        self.assertEqual(fours_fills(room), [Room(8, EIGHT_WORDS)])


if __name__ == "__main__":
    unittest.main()
