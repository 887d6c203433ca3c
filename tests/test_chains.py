"""Distances of own rooms, chains between them, and families of those by fours."""

import itertools
import random
import unittest

from owncontraries.chains import chain, distance, is_chain, same_family
from owncontraries.contraries import is_own
from owncontraries.errors import InvalidRoom, NotByFours, NotOwn, UnlikePlaces
from owncontraries.fours import is_by_fours
from owncontraries.neighbours import are_neighbours, neighbour, neighbours
from owncontraries.rooms import Room
from tests.checks import Checks
from tests.drawn import EIGHT_WORDS, GOLAY_WORDS, all_sums, drawn_fours_rooms, drawn_own_rooms, lot_words, own_rooms
from tests.drawn import own_rooms_of, pair_words, units
from tests.values import AT_LEAST_ZERO, BELOW_ZERO, NO_INTEGERS, NO_ROOMS, Plain

ALL_FOUR = [distance, chain, lambda room, other: is_chain(room, other, [room]), same_family]
PAIRS, CROSS, NEST = Room(4, [3, 12]), Room(4, [5, 10]), Room(4, [6, 9])
EIGHT = Room(8, EIGHT_WORDS)


def lack(room, other):
    """How many dimensions the rooms' words in common lack, these gone through one by one."""
    common = set(all_sums(room.basis())) & set(all_sums(other.basis()))
    return room.places // 2 - (len(common).bit_length() - 1)


def own_pairs():
    """Pairs of own rooms of as many places: all of up to six places, and drawn ones of 8 to 24."""
    for places in [2, 4, 6]:
        yield from itertools.product(own_rooms_of(places), repeat=2)
    chance = random.Random(51)
    for places in range(8, 25, 2):
        rooms = list(drawn_own_rooms(places, [places] * 4)) + [room for room in own_rooms() if room.places == places]
        for _ in range(8):
            yield chance.choice(rooms), chance.choice(rooms)


def fours_rooms_of(places):
    """Own rooms by fours of so many places: all of eight, drawn ones of more."""
    if places == 8:
        return [room for room in own_rooms_of(8) if all(bin(word).count("1") % 4 == 0 for word in room.basis())]
    return list(drawn_fours_rooms(52, [places] * 8))


class TestExamples(unittest.TestCase):
    def test_the_examples_of_the_interface(self):
        pairs, cross, nest = PAIRS, CROSS, NEST
        told = [distance(pairs, cross), chain(pairs, cross) == [pairs, cross]]
        told += [is_chain(pairs, cross, [pairs, nest, cross]), is_chain(pairs, cross, [pairs])]
        self.assertEqual(repr(told), "[1, True, True, False]")
        eight = EIGHT
        told = [same_family(eight, eight), same_family(eight, neighbour(eight, 23))]
        told += [distance(eight, neighbour(eight, 23)), chain(eight, eight) == [eight]]
        self.assertEqual(repr(told), "[True, False, 1, True]")


class TestDistance(Checks):
    def test_against_words_in_common(self):
        for room, other in own_pairs():
            told = self.asked(distance, room=room, other=other)
            self.assertIs(type(told), int)
            self.assertEqual(told, lack(room, other))
            self.assertEqual(distance(other, room), told)
            self.assertIs(told == 0, room == other)
            self.assertIs(told == 1, are_neighbours(room, other))

    def test_of_a_room_with_itself(self):
        for room in own_rooms():
            self.assertEqual(self.asked(distance, room=room, other=room), 0)

    def test_a_great_one(self):
        # all but the word of all places, which each own room has, may lack
        self.assertEqual(max(distance(EIGHT, other) for other in own_rooms_of(8)), 3)
        self.assertEqual(distance(Room(24, GOLAY_WORDS), Room(24, pair_words(24))), 11)


class TestChain(Checks):
    def test_as_short_as_can_be(self):
        for room, other in own_pairs():
            told = self.asked(chain, room=room, other=other)
            self.assertIs(type(told), list)
            self.assertEqual([told[0], told[-1]], [room, other])
            self.assertEqual(len(told), lack(room, other) + 1)
            for one in told:
                self.assertIsInstance(one, Room)
                self.assertEqual([one.places, is_own(one)], [room.places, True])
            self.assertEqual([lack(last, following) for last, following in zip(told, told[1:])], [1] * (len(told) - 1))
            self.assertIs(self.truth(is_chain, room=room, other=other, value=told), True)

    def test_of_a_room_with_itself(self):
        for room in own_rooms():
            self.assertEqual(self.asked(chain, room=room, other=room), [room])


class TestIsChain(Checks):
    def check_lets(self, room, other, value, wanted):
        with self.subTest(room=room, other=other, value=repr(value)[:400]):
            self.assertIs(self.truth(is_chain, room=room, other=other, value=value), wanted)

    def test_all_lists_of_rooms_of_four_places(self):
        for many in range(5):
            for value in itertools.product([PAIRS, CROSS, NEST], repeat=many):
                good = all(last != following for last, following in zip(value, value[1:]))
                for room, other in itertools.product([PAIRS, CROSS, NEST], repeat=2):
                    wanted = good and many > 0 and value[0] == room and value[-1] == other
                    self.assertIs(is_chain(room, other, list(value)), wanted)
                    self.assertIs(is_chain(room, other, value), wanted)

    def test_drawn_lists(self):
        chance = random.Random(53)
        for places in [6, 8]:
            rooms = own_rooms_of(places)
            for _ in range(300):
                value = [chance.choice(rooms)]
                for _ in range(chance.randrange(4)):
                    near = [other for other in chance.sample(rooms, 9) if lack(value[-1], other) == 1]
                    value.append(chance.choice(near + [chance.choice(rooms)]))
                wanted = all(lack(last, following) == 1 for last, following in zip(value, value[1:]))
                self.check_lets(value[0], value[-1], value, wanted)

    def test_chains_changed(self):
        for room, other in list(own_pairs())[::7]:
            told = chain(room, other)
            self.check_lets(room, other, tuple(told), True)
            self.check_lets(other, room, told[::-1], True)
            self.check_lets(room, other, told[::-1], room == other)
            self.check_lets(other, room, told, room == other)
            for at in range(len(told)):
                # no chain is shorter than the distance
                self.check_lets(room, other, told[:at] + told[at + 1:], False)
                self.check_lets(room, other, told[:at] + [told[at]] + told[at:], False)
                for bad in [Room(room.places, []), Room(room.places, units(room.places)), Room(room.places - 1, [])]:
                    self.check_lets(room, other, told[:at] + [bad] + told[at:], False)
                    self.check_lets(room, other, told[:at] + [bad] + told[at + 1:], False)
            if len(told) > 2:
                self.check_lets(room, other, [told[0]] + told[2:0:-1] + told[3:], False)
                # there and back again
                self.check_lets(room, room, told + told[-2::-1], True)

    def test_rooms_of_other_places(self):
        two, eight = Room(2, [3]), EIGHT
        self.check_lets(PAIRS, CROSS, [PAIRS, two, CROSS], False)
        self.check_lets(PAIRS, CROSS, [PAIRS, eight, CROSS], False)
        self.check_lets(PAIRS, PAIRS, [two], False)
        self.check_lets(two, two, [two], True)
        self.check_lets(two, two, [PAIRS], False)
        # the same plain basis
        self.check_lets(PAIRS, PAIRS, [Room(5, [3, 12])], False)

    def test_rooms_that_are_not_own(self):
        for words in [[], [15], units(4), [3, 12, 5], [3, 5], [1, 15]]:
            bad = Room(4, words)
            self.check_lets(PAIRS, CROSS, [PAIRS, bad, CROSS], False)
            self.check_lets(PAIRS, CROSS, [bad, CROSS], False)
            self.check_lets(PAIRS, CROSS, [PAIRS, bad], False)
            self.check_lets(PAIRS, PAIRS, [bad], False)
        # half of it in common with the rooms beside it, but not still
        self.check_lets(PAIRS, NEST, [PAIRS, Room(4, [3, 6]), NEST], False)

    def test_at_most_100_rooms(self):
        for many in [98, 99, 100, 101, 102, 199, 200]:
            value = [[PAIRS, CROSS][at % 2] for at in range(many)]
            self.check_lets(value[0], value[-1], value, many <= 100)
            self.check_lets(value[0], value[-1], tuple(value), many <= 100)
        value = [[PAIRS, CROSS, NEST][at % 3] for at in range(100)]
        self.check_lets(PAIRS, PAIRS, value, True)
        self.check_lets(PAIRS, CROSS, value + [CROSS], False)

    def test_no_rooms(self):
        for value in [[], (), [[]], [()], ((),)]:
            for room, other in [(PAIRS, PAIRS), (PAIRS, CROSS)]:
                self.check_lets(room, other, value, False)

    def test_values_of_all_other_kinds(self):
        texts = ["Room(4, [12, 3])", "[Room(4, [12, 3])]"]
        others = NO_INTEGERS + BELOW_ZERO + AT_LEAST_ZERO + texts
        others += [PAIRS, {0: PAIRS}, [[PAIRS]], ([PAIRS],), [PAIRS.basis()], [12, 3], (4, [12, 3]), [(4, [12, 3])]]
        for value in others:
            self.check_lets(PAIRS, PAIRS, value, False)
        for one in NO_ROOMS + [Plain()]:
            self.check_lets(PAIRS, PAIRS, [one], False)
            self.check_lets(PAIRS, CROSS, [PAIRS, one, CROSS], False)
            self.check_lets(PAIRS, CROSS, [PAIRS, one], False)
            self.check_lets(PAIRS, CROSS, [one, CROSS], False)


class TestSameFamily(Checks):
    def test_by_distances(self):
        for places in [8, 16, 24]:
            rooms = fours_rooms_of(places)
            for room, other in itertools.product(rooms, rooms[::3]):
                wanted = lack(room, other) % 2 == 0
                self.assertIs(self.truth(same_family, room=room, other=other), wanted)
                self.assertIs(same_family(other, room), wanted)

    def test_there_are_two_families(self):
        for places in [8, 16, 24]:
            rooms = fours_rooms_of(places)
            first = [same_family(rooms[0], other) for other in rooms]
            self.assertEqual(set(first), {True, False})
            for at, room in enumerate(rooms):
                self.assertEqual([same_family(room, other) for other in rooms], [one == first[at] for one in first])
        eights = fours_rooms_of(8)
        self.assertEqual(len([room for room in eights if same_family(room, EIGHT)]), 15)

    def test_half_of_the_neighbours_are_by_fours(self):
        for room in fours_rooms_of(8):
            others = [other for other in neighbours(room) if is_by_fours(other)]
            self.assertEqual(len(others), 7)
            self.assertEqual([same_family(room, other) for other in others], [False] * 7)

    def test_neighbours_by_fours_are_of_the_other_family(self):
        for room in fours_rooms_of(16) + [Room(24, GOLAY_WORDS), Room(16, lot_words(16))]:
            word = [15 << place for place in range(room.places - 4) if not room.has(15 << place)][0]
            self.assertIs(same_family(room, neighbour(room, word)), False)
            self.assertIs(same_family(room, room), True)


class TestWrong(Checks):
    def test_wrong_rooms(self):
        for room in [PAIRS, EIGHT, Room(4, [3])]:
            good = {"room": room, "other": Room(2, [3])}
            wrong = {"room": (InvalidRoom, NO_ROOMS), "other": (InvalidRoom, NO_ROOMS)}
            for function in [distance, chain, same_family]:
                self.check_wrong(function, good, wrong)
            for value in [[room], [], None]:
                self.check_wrong(is_chain, {**good, "value": value}, wrong)

    def test_unlike_places(self):
        large = (Room(8, []), Room(16, []))
        for room, other in [(PAIRS, EIGHT), (PAIRS, Room(6, [])), (Room(3, []), Room(2, [1])), large]:
            for function in ALL_FOUR:
                self.check_error(UnlikePlaces, {}, function, room=room, other=other)
                self.check_error(UnlikePlaces, {}, function, room=other, other=room)

    def test_rooms_that_are_not_own(self):
        for places in [2, 4, 8, 16, 24]:
            own = next(drawn_own_rooms(54, [places]))
            for words in [[], own.basis()[1:], units(places), units(places // 2)]:
                bad = Room(places, words)
                for function in ALL_FOUR:
                    self.check_error(NotOwn, {}, function, room=own, other=bad)
                    self.check_error(NotOwn, {}, function, room=bad, other=own)
                    self.check_error(NotOwn, {}, function, room=bad, other=bad)
        # by fours, but not own
        for function in ALL_FOUR:
            self.check_error(NotOwn, {}, function, room=EIGHT, other=Room(8, EIGHT_WORDS[:3]))

    def test_rooms_that_are_not_by_fours(self):
        for places in [8, 16, 24]:
            good, bad = fours_rooms_of(places)[0], Room(places, pair_words(places))
            self.check_error(NotByFours, {}, same_family, room=good, other=bad)
            self.check_error(NotByFours, {}, same_family, room=bad, other=good)
            self.check_error(NotByFours, {}, same_family, room=bad, other=bad)
        for places in [2, 4, 6, 10, 12]:
            room = Room(places, pair_words(places))
            self.check_error(NotByFours, {}, same_family, room=room, other=room)
        self.check_error(NotByFours, {}, same_family, room=Room(12, lot_words(12)), other=Room(12, lot_words(12)))


class TestCopies(Checks):
    def test_told_lists_are_new(self):
        for room, other in [(PAIRS, CROSS), (PAIRS, PAIRS), (EIGHT, Room(8, pair_words(8)))]:
            self.check_new(chain, room, other)

    def test_nothing_that_is_passed_is_changed(self):
        value = [PAIRS, NEST, CROSS]
        for _ in range(2):
            self.assertIs(is_chain(PAIRS, CROSS, value), True)
            self.assertEqual(value, [Room(4, [3, 12]), Room(4, [6, 9]), Room(4, [5, 10])])
        chain(PAIRS, CROSS)[0].basis().append(1)
        self.assertEqual(PAIRS, Room(4, [3, 12]))


if __name__ == "__main__":
    unittest.main()
