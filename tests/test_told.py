"""The kinds of own rooms of up to 16 places, their names, and how many rooms lack."""

import itertools
import math
import random
import unittest

from owncontraries.alike import alike, own_exchanges
from owncontraries.contraries import is_own
from owncontraries.errors import InvalidPlaces, InvalidRoom, InvalidRooms, NotOwn, TooMany, UnlikePlaces
from owncontraries.kinds import fours_kinds, pairs
from owncontraries.mixes import beside, exchanged
from owncontraries.numbers import own_number
from owncontraries.rooms import Room
from owncontraries.told import kind_of, lacking, told_kinds
from tests.checks import Checks
from tests.drawn import EIGHT_WORDS, all_sums, drawn_own_rooms, lot_words, ons, own_rooms, own_rooms_of, pair_words
from tests.drawn import units
from tests.values import NO_EVENS, NO_INTEGERS, NO_NUMBERS, NO_ROOMS

EVENS = list(range(2, 17, 2))
# point 83: what a room has beside its pairs, and its part of the exchanges
RESTS = {
    "": 1,
    "e8": 1344,
    "d12": 23040,
    "e7+e7": 56448,
    "d16": 5160960,
    "e8+e8": 3612672,
    "d8+d8": 73728,
}
SIZES = {"": 0, "e8": 8, "d12": 12, "e7+e7": 14, "d16": 16, "e8+e8": 16, "d8+d8": 16}


def wanted_kinds(places):
    """The names of so many places, as point 83 tells, with the numbers of exchanges."""
    found = {}
    for rest, exchanges in RESTS.items():
        many = (places - SIZES[rest]) // 2
        if many >= 0:
            name = "+".join(["2"] * many + ([rest] if rest else []))
            found[name] = 2 ** many * math.factorial(many) * exchanges
    return found


def plain_name(room):
    """The name of an own room, by its pairs and lots."""
    twos = [word for word in all_sums(room.basis()) if ons(word) == 2]
    return "+".join(["2"] * len(twos) + sorted(kind for kind, spots in fours_kinds(room)))


def moved(chance, room):
    """The room with its places exchanged."""
    return exchanged(room, chance.sample(range(room.places), room.places))


class TestExamples(unittest.TestCase):
    def test_the_examples_of_the_interface(self):
        four, eight = Room(8, [3, 12, 48, 192]), Room(8, [15, 60, 240, 170])
        told = [[(name, exchanges) for name, room, exchanges in told_kinds(8)], kind_of(four), kind_of(eight)]
        told += [lacking([four]), lacking([eight, four, eight])]
        self.assertEqual(repr(told), "[[('2+2+2+2', 384), ('e8', 1344)], '2+2+2+2', 'e8', 30, 0]")


class TestToldKinds(Checks):
    def test_names_and_numbers(self):
        for places in EVENS:
            told = self.asked(told_kinds, places=places)
            self.assertIs(type(told), list)
            self.assertEqual([(name, many) for name, room, many in told], sorted(wanted_kinds(places).items()))
            for one in told:
                self.assertEqual([type(one), type(one[0]), type(one[1]), type(one[2])], [tuple, str, Room, int])

    def test_as_many_kinds_as_the_document_tells(self):
        self.assertEqual([len(told_kinds(places)) for places in EVENS], [1, 1, 1, 2, 2, 3, 4, 7])

    def test_the_rooms_are_own_and_of_the_name(self):
        for places in EVENS:
            for name, room, many in told_kinds(places):
                told = [room.places, is_own(room), kind_of(room), plain_name(room)]
                self.assertEqual(told, [places, True, name, name])

    def test_the_numbers_of_exchanges_of_the_rooms(self):
        for places in EVENS[:6]:
            for name, room, many in told_kinds(places):
                self.assertEqual(own_exchanges(room), many)

    def test_few_places_against_all_sequences(self):
        for places in [2, 4, 6]:
            for name, room, many in told_kinds(places):
                often = 0
                for sequence in itertools.permutations(range(places)):
                    often += exchanged(room, sequence) == room
                self.assertEqual(often, many)

    def test_all_kinds_are_all_rooms(self):
        for places in EVENS:
            parts = []
            for name, room, many in told_kinds(places):
                self.assertEqual(math.factorial(places) % many, 0)
                parts.append(math.factorial(places) // many)
            self.assertEqual(sum(parts), own_number(places))

    def test_each_own_room_is_of_one_kind(self):
        for places in [2, 4, 6, 8]:
            found = {}
            for room in own_rooms_of(places):
                found[kind_of(room)] = found.get(kind_of(room), 0) + 1
            wanted = {name: math.factorial(places) // many for name, room, many in told_kinds(places)}
            self.assertEqual(found, wanted)


class TestKindOf(Checks):
    def check_kind(self, room, wanted):
        told = self.asked(kind_of, room=room)
        self.assertEqual((told, type(told)), (wanted, str))

    def test_own_rooms(self):
        for places in EVENS:
            self.check_kind(Room(places, pair_words(places)), "+".join(["2"] * (places // 2)))
        self.check_kind(Room(8, EIGHT_WORDS), "e8")
        self.check_kind(Room(8, lot_words(8)), "e8")
        self.check_kind(Room(12, lot_words(12)), "d12")
        self.check_kind(Room(16, lot_words(16)), "d16")
        self.check_kind(beside(Room(8, EIGHT_WORDS), Room(4, [3, 12])), "2+2+e8")
        self.check_kind(beside(Room(4, [3, 12]), Room(12, lot_words(12))), "2+2+d12")
        self.check_kind(beside(Room(8, EIGHT_WORDS), Room(8, lot_words(8))), "e8+e8")
        sevens = Room(14, [15, 51, 85, 15 << 7, 51 << 7, 85 << 7, 2 ** 14 - 1])
        self.check_kind(sevens, "e7+e7")
        self.check_kind(beside(Room(2, [3]), sevens), "2+e7+e7")

    def test_with_places_exchanged(self):
        chance = random.Random(151)
        rooms = list(drawn_own_rooms(152, EVENS * 4)) + [room for room in own_rooms() if room.places <= 16]
        rooms += [room for places in EVENS for name, room, many in told_kinds(places)]
        for room in rooms:
            self.check_kind(room, plain_name(room))
            self.assertIn(plain_name(room), wanted_kinds(room.places))
            self.check_kind(moved(chance, room), plain_name(room))

    def test_one_name_exactly_if_alike(self):
        for places in [8, 10, 12]:
            rooms = list(drawn_own_rooms(153, [places] * 8)) + [room for name, room, many in told_kinds(places)]
            for room, other in itertools.combinations(rooms, 2):
                self.assertIs(alike(room, other) is not None, kind_of(room) == kind_of(other))
                same = [len(pairs(room)), [kind for kind, spots in fours_kinds(room)]]
                self.assertIs(kind_of(room) == kind_of(other), same == [
                    len(pairs(other)), [kind for kind, spots in fours_kinds(other)]])


class TestLacking(Checks):
    def check_lacking(self, rooms, wanted):
        for value in [rooms, tuple(rooms)]:
            told = self.asked(lacking, rooms=value)
            self.assertEqual((told, type(told)), (wanted, int))

    def test_all_lots_of_kinds(self):
        chance = random.Random(154)
        for places in EVENS:
            kinds = told_kinds(places)
            for many in range(1, len(kinds) + 1):
                for some in itertools.combinations(kinds, many):
                    there = sum(math.factorial(places) // exchanges for name, room, exchanges in some)
                    rooms = [moved(chance, room) for name, room, exchanges in some]
                    self.check_lacking(rooms, own_number(places) - there)

    def test_none_lacks(self):
        for places in EVENS:
            rooms = [room for name, room, exchanges in told_kinds(places)]
            self.check_lacking(rooms, 0)
            self.check_lacking(rooms[::-1], 0)
            self.check_lacking(rooms * 3, 0)

    def test_alike_rooms_count_once(self):
        chance = random.Random(155)
        four, eight = Room(8, pair_words(8)), Room(8, EIGHT_WORDS)
        self.check_lacking([four], 30)
        self.check_lacking([four, four], 30)
        self.check_lacking([four] + [moved(chance, four) for _ in range(6)], 30)
        self.check_lacking([moved(chance, eight) for _ in range(6)], 105)
        self.check_lacking([eight, four, eight], 0)
        self.check_lacking([eight] * 199 + [four], 0)

    def test_of_all_own_rooms_of_eight_places(self):
        rooms = own_rooms_of(8)
        self.assertEqual(lacking(rooms[:135]), 0)

    def test_nothing_that_is_passed_is_changed(self):
        rooms = [Room(8, pair_words(8)), Room(8, EIGHT_WORDS)]
        lacking(rooms)
        self.assertEqual(rooms, [Room(8, pair_words(8)), Room(8, EIGHT_WORDS)])


class TestWrong(Checks):
    def test_wrong_places(self):
        wrong = NO_EVENS + list(range(18, 30, 2))
        self.check_wrong(told_kinds, {"places": 8}, {"places": (InvalidPlaces, wrong)})
        self.assertEqual(len(told_kinds(16)), 7)

    def test_wrong_room(self):
        self.check_wrong(kind_of, {"room": Room(3, [])}, {"room": (InvalidRoom, NO_ROOMS)})

    def test_no_lists(self):
        for value in NO_NUMBERS + [0, 1, -1, 10 ** 29, [], (), Room(2, [3]), {0: Room(2, [3])}]:
            with self.subTest(repr(value)):
                self.check_error(InvalidRooms, {"position": None}, lacking, rooms=value)

    def test_the_first_that_is_no_room(self):
        good, bad = Room(8, EIGHT_WORDS), Room(3, [])
        for value in NO_ROOMS:
            for rooms, position in [([value], 0), ([good, value], 1), ([bad, good, value, good, None], 2)]:
                self.check_error(InvalidRooms, {"position": position}, lacking, rooms=rooms)
                self.check_error(InvalidRooms, {"position": position}, lacking, rooms=tuple(rooms))
        for value in NO_INTEGERS:
            self.check_error(InvalidRooms, {"position": 2}, lacking, rooms=[good, good, value, value])

    def test_unlike_places(self):
        good, bad, large = Room(8, EIGHT_WORDS), Room(8, []), Room(18, pair_words(18))
        for rooms in [[good, Room(4, [3, 12])], [bad, Room(4, [])], [large, good], [good, good, large], [bad, large]]:
            self.check_error(UnlikePlaces, {}, lacking, rooms=rooms)
            self.check_error(UnlikePlaces, {}, lacking, rooms=tuple(rooms[::-1]))

    def test_rooms_that_are_not_own(self):
        good = Room(8, EIGHT_WORDS)
        for places in range(1, 25):
            for words in [[], units(places), [1]]:
                bad = Room(places, words)
                self.check_error(NotOwn, {}, kind_of, room=bad)
                self.check_error(NotOwn, {}, lacking, rooms=[bad])
                self.check_error(NotOwn, {}, lacking, rooms=[bad, bad])
        for bad in [Room(8, EIGHT_WORDS[:3]), Room(8, units(8)[:4])]:
            self.check_error(NotOwn, {}, lacking, rooms=[good, bad])
            self.check_error(NotOwn, {}, lacking, rooms=[good, good, bad, good])

    def test_more_than_16_places(self):
        told = {"what": "places", "limit": 16}
        for places in [18, 20, 22, 24]:
            room = Room(places, pair_words(places))
            self.check_error(TooMany, told, kind_of, room=room)
            self.check_error(TooMany, told, lacking, rooms=[room])
            self.check_error(TooMany, told, lacking, rooms=[room, room])
            self.check_error(NotOwn, {}, lacking, rooms=[room, Room(places, [])])


class TestCopies(Checks):
    def test_told_lists_are_new(self):
        for places in EVENS:
            self.check_new(told_kinds, places)
        told_kinds(8)[0][1].basis().append(1)
        self.assertEqual(told_kinds(8)[0][1].basis(), told_kinds(8)[0][1].basis())


if __name__ == "__main__":
    unittest.main()
