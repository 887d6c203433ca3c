"""Exchanges of places that lead rooms into one another."""

import itertools
import math
import random
import unittest

from owncontraries.alike import alike, is_alike, own_exchanges
from owncontraries.contraries import contrary
from owncontraries.errors import InvalidRoom, TooMany, UnlikePlaces
from owncontraries.mixes import beside, exchanged
from owncontraries.rooms import Room
from owncontraries.weights import row
from tests.checks import Checks
from tests.drawn import EIGHT_WORDS, all_rooms, all_sums, drawn_own_rooms, drawn_rooms, even_words, lot_words, ons
from tests.drawn import pair_words, units
from tests.values import AT_LEAST_ZERO, BELOW_ZERO, NO_INTEGERS, NO_ROOMS, NO_SEQUENCES

TWO, CROSS, NEST = Room(4, [3, 12]), Room(4, [5, 10]), Room(4, [6, 9])


def plain_led(word, sequence):
    """The word of the places to which a sequence leads those of a word."""
    return sum(2 ** end for place, end in enumerate(sequence) if word & 2 ** place)


def images(room):
    """The sets of words to which all sequences lead the words of the room, one for each sequence."""
    words = all_sums(room.basis())
    for sequence in itertools.permutations(range(room.places)):
        yield frozenset(plain_led(word, sequence) for word in words)


def word_set(room):
    return frozenset(all_sums(room.basis()))


def moved(chance, room):
    """The room with its places exchanged."""
    return exchanged(room, chance.sample(range(room.places), room.places))


def profile(room, many=1):
    """For each so many places the weights of the words that are on there, sorted: alike rooms have the same."""
    words = all_sums(room.basis())
    lots = [sum(lot) for lot in itertools.combinations(units(room.places), many)]
    return sorted(sorted(ons(word) for word in words if word & lot == lot) for lot in lots)


def unlike_pairs():
    """Pairs of rooms of some places with equal rows of which no sequence leads the one to the other one."""
    # three pairs that do not meet, or three that meet two by two
    yield Room(6, [3, 12, 48]), Room(6, [3, 5, 57])
    # each place of them is like any other
    yield Room(12, [2121, 1061, 591, 303, 238, 29]), Room(12, [2067, 1167, 657, 414, 85, 57])
    yield Room(12, [2121, 1061, 591, 303, 238, 29]), Room(12, [2095, 1085, 531, 282, 150, 114])
    chance = random.Random(130)
    for places, dimensions in [(7, [3, 4]), (8, [3, 4, 5]), (10, [4, 5]), (12, [4, 5, 6, 7])]:
        groups = {}
        for many in dimensions * 60:
            room = Room(places, [chance.randrange(2 ** places) for _ in range(many)])
            groups.setdefault(tuple(row(room)), []).append(room)
        for rooms in groups.values():
            others = [other for other in rooms if profile(other) != profile(rooms[0])]
            if others:
                yield rooms[0], others[0]


def twelve_rooms():
    """Rooms of twelve places with many own exchanges, and how many: known ones."""
    fact = math.factorial
    yield Room(12, []), fact(12)
    yield Room(12, units(12)), fact(12)
    yield Room(12, [4095]), fact(12)
    yield Room(12, even_words(12)), fact(12)
    yield Room(12, pair_words(12)), 2 ** 6 * fact(6)
    yield Room(12, lot_words(12)), 23040
    yield Room(12, [15 << place for place in range(0, 9, 2)]), 46080
    yield Room(12, units(12)[:5]), fact(5) * fact(7)
    yield Room(12, [63, 63 << 6]), 2 * fact(6) ** 2
    yield Room(12, [15, 15 << 4, 15 << 8]), fact(3) * fact(4) ** 3
    yield Room(12, [7 << place for place in range(0, 12, 3)]), fact(4) * fact(3) ** 4
    yield Room(12, EIGHT_WORDS + [3 << 8, 3 << 10]), 1344 * 8
    yield Room(12, EIGHT_WORDS), 1344 * fact(4)
    yield Room(12, EIGHT_WORDS + units(12)[8:]), 1344 * fact(4)
    yield Room(12, [(1 << place) | 2048 for place in range(11)]), fact(12)
    yield Room(12, [15, 51, 85] + units(12)[7:]), 168 * fact(5)
    yield Room(12, [15, 51, 85, 31 << 7]), 168 * fact(5)
    yield Room(12, even_words(6) + [63 << 6]), fact(6) ** 2


class TestExamples(unittest.TestCase):
    def test_the_examples_of_the_interface(self):
        two, eight = Room(4, [3, 12]), Room(8, [240, 204, 170, 255])
        told = [own_exchanges(two), own_exchanges(eight), own_exchanges(Room(5, [])), alike(two, Room(4, [15]))]
        told += [is_alike(two, Room(4, [5, 10]), [0, 2, 1, 3])]
        self.assertEqual(repr(told), "[8, 1344, 120, None, True]")
        self.assertIs(is_alike(two, Room(4, [5, 10]), alike(two, Room(4, [5, 10]))), True)


class TestAlike(Checks):
    def check_leads(self, room, other):
        told = self.asked(alike, room=room, other=other)
        self.assertIs(type(told), list)
        self.assertEqual({type(place) for place in told}, {int})
        self.assertEqual(sorted(told), list(range(room.places)))
        self.assertEqual(frozenset(plain_led(word, told) for word in word_set(room)), word_set(other))
        self.assertEqual(exchanged(room, told), other)
        self.assertIs(self.truth(is_alike, room=room, other=other, value=told), True)

    def test_few_places_against_all_sequences(self):
        for places in [1, 2, 3, 4]:
            rooms = all_rooms(places)
            for room in rooms:
                found = set(images(room))
                for other in rooms:
                    if word_set(other) in found:
                        self.check_leads(room, other)
                    else:
                        self.assertIsNone(self.asked(alike, room=room, other=other))

    def test_drawn_rooms_against_all_sequences(self):
        chance = random.Random(131)
        for places, often in [(5, 40), (6, 12)]:
            rooms = [room for seed in range(12) for room in drawn_rooms(seed, [places])]
            for room in chance.sample(rooms, often):
                found = set(images(room))
                near = [other for other in rooms if row(other) == row(room)]
                for other in near + chance.sample(rooms, 5):
                    if word_set(other) in found:
                        self.check_leads(room, other)
                    else:
                        self.assertIsNone(alike(room, other))

    def test_rooms_exchanged_by_drawn_sequences(self):
        chance = random.Random(132)
        rooms = list(drawn_rooms(133, list(range(1, 13)) + [11, 12, 12]))
        rooms += list(drawn_own_rooms(134, [8, 10, 12, 12])) + [room for room, many in twelve_rooms()]
        for room in rooms:
            self.check_leads(room, moved(chance, room))
            self.check_leads(room, room)

    def test_equal_rows_alone_do_not_make_rooms_alike(self):
        chance = random.Random(135)
        found = list(unlike_pairs())
        self.assertEqual({room.places for room, other in found}, {6, 7, 8, 10, 12})
        room, other = found[0]
        self.assertNotIn(word_set(other), set(images(room)))
        for room, other in found:
            self.assertEqual(row(room), row(other))
            self.assertNotEqual([profile(room), profile(room, 2)], [profile(other), profile(other, 2)])
            self.assertIsNone(self.asked(alike, room=room, other=other))
            self.assertIsNone(alike(contrary(room), contrary(other)))
            # nor do places with the same rooms on them
            rest = 12 - room.places
            for extra in [Room(rest, words) for words in [[], pair_words(rest), units(rest), [2 ** rest - 1]] if rest]:
                one, another = moved(chance, beside(room, extra)), moved(chance, beside(other, extra))
                self.assertEqual(row(one), row(another))
                self.assertIsNone(alike(one, another))
                self.check_leads(one, moved(chance, one))

    def test_unlike_dimensions(self):
        for places in range(1, 13):
            for room in drawn_rooms(136, [places]):
                for other in [Room(places, []), Room(places, units(places)), contrary(room)]:
                    if other.dimension != room.dimension:
                        self.assertIsNone(alike(room, other))
                        self.assertIsNone(alike(other, room))

    def test_contraries_are_alike_by_the_same_sequence(self):
        chance = random.Random(137)
        for room in drawn_rooms(138, list(range(1, 13))):
            other = moved(chance, room)
            told = alike(room, other)
            self.assertIs(is_alike(contrary(room), contrary(other), told), True)
            self.assertIs(is_alike(room, other, alike(contrary(room), contrary(other))), True)

    def test_no_room_of_many_looks_alike(self):
        # of twelve places and six dimensions, grouped by their rows: each answer is right by itself or by counting
        chance = random.Random(139)
        groups = {}
        for _ in range(300):
            room = Room(12, [chance.randrange(2 ** 12) for _ in range(6)])
            groups.setdefault(tuple(row(room)), []).append(room)
        for rooms in groups.values():
            for room, other in zip(rooms, rooms[1:]):
                told = alike(room, other)
                if told is not None:
                    self.assertEqual(exchanged(room, told), other)
                    self.assertEqual(own_exchanges(room), own_exchanges(other))


class TestIsAlike(Checks):
    def check_lets(self, room, other, value, wanted):
        with self.subTest(room=room, other=other, value=repr(value)[:200]):
            self.assertIs(self.truth(is_alike, room=room, other=other, value=value), wanted)

    def test_all_sequences_of_few_places(self):
        chance = random.Random(140)
        for places in [1, 2, 3, 4]:
            rooms = all_rooms(places)
            for room in chance.sample(rooms, min(len(rooms), 15)):
                others = [room, moved(chance, room)] + chance.sample(rooms, min(len(rooms), 3))
                for sequence in itertools.permutations(range(places)):
                    led = frozenset(plain_led(word, sequence) for word in word_set(room))
                    for other in others:
                        self.assertIs(is_alike(room, other, list(sequence)), led == word_set(other))
                        self.assertIs(is_alike(room, other, sequence), led == word_set(other))

    def test_the_way_it_leads(self):
        room, other = Room(3, [1]), Room(3, [2])
        # place 0 is led to the place that stands first
        self.check_lets(room, other, [1, 2, 0], True)
        self.check_lets(room, other, [2, 0, 1], False)
        self.check_lets(room, other, (1, 0, 2), True)

    def test_lists_that_are_no_sequences(self):
        for value in NO_SEQUENCES:
            self.check_lets(TWO, CROSS, value, False)
            self.check_lets(TWO, TWO, value, False)
            self.check_lets(Room(4, []), Room(4, []), value, False)

    def test_values_of_all_other_kinds(self):
        for value in NO_INTEGERS + BELOW_ZERO + AT_LEAST_ZERO + [TWO, [TWO] * 4, "0213", None]:
            if value not in [[0, 1], (1, 0)]:
                self.check_lets(Room(2, []), Room(2, []), value, False)
            self.check_lets(TWO, CROSS, value, False)

    def test_more_than_12_places(self):
        chance = random.Random(141)
        for places in [13, 16, 20, 23, 24]:
            for room in drawn_rooms(142, [places], 6):
                sequence = chance.sample(range(places), places)
                other = exchanged(room, sequence)
                self.check_lets(room, other, sequence, True)
                self.check_lets(room, other, tuple(sequence), True)
                self.check_lets(room, other, sequence[1:], False)
                self.check_lets(room, other, sequence + [places], False)
                self.check_lets(room, other, sequence[:-1] + [sequence[0]], False)
                self.check_lets(room, other, sequence[:-1] + [places], False)
                self.check_lets(room, other, sequence[:-1] + [True], False)
                turned = sequence[1:] + sequence[:1]
                self.check_lets(room, other, turned, exchanged(room, turned) == other)


class TestOwnExchanges(Checks):
    def check_count(self, room, wanted):
        told = self.asked(own_exchanges, room=room)
        self.assertEqual((told, type(told)), (wanted, int))

    def test_few_places_against_all_sequences(self):
        rooms = [room for places in [1, 2, 3, 4] for room in all_rooms(places)]
        rooms += list(drawn_rooms(143, [5, 5, 5, 6, 6])) + [Room(6, pair_words(6)), Room(6, [15, 60])]
        for room in rooms:
            led = list(images(room))
            self.check_count(room, led.count(word_set(room)))
            # so many different rooms are alike to it
            self.assertEqual(len(set(led)), math.factorial(room.places) // own_exchanges(room))

    def test_the_numbers_of_the_document(self):
        self.check_count(Room(4, [3, 12]), 8)
        self.check_count(Room(8, EIGHT_WORDS), 1344)
        self.check_count(Room(12, lot_words(12)), 23040)
        for places in range(1, 13):
            self.check_count(Room(places, []), math.factorial(places))
            self.check_count(Room(places, units(places)), math.factorial(places))

    def test_twelve_places(self):
        chance = random.Random(144)
        for room, wanted in twelve_rooms():
            self.check_count(room, wanted)
            self.check_count(contrary(room), wanted)
            self.check_count(moved(chance, room), wanted)

    def test_rooms_and_their_contraries(self):
        for room in drawn_rooms(145, [7, 8, 9, 10, 11, 12]):
            self.assertEqual(own_exchanges(room), own_exchanges(contrary(room)))
            self.assertEqual(math.factorial(room.places) % own_exchanges(room), 0)

    def test_rooms_alike_have_as_many(self):
        chance = random.Random(146)
        for room in drawn_rooms(147, [6, 9, 11, 12]):
            self.assertEqual(own_exchanges(moved(chance, room)), own_exchanges(room))

    def test_drawn_rooms_of_seven_places(self):
        for room in [Room(7, [15, 51, 85]), Room(7, [3, 12, 112])]:
            words = all_sums(room.basis())
            often = 0
            for sequence in itertools.permutations(range(7)):
                often += all(plain_led(word, sequence) in words for word in room.basis())
            self.check_count(room, often)


class TestWrong(Checks):
    def test_wrong_rooms(self):
        for good in [{"room": TWO, "other": Room(5, [3])}, {"room": Room(13, []), "other": Room(14, [])}]:
            wrong = {"room": (InvalidRoom, NO_ROOMS), "other": (InvalidRoom, NO_ROOMS)}
            self.check_wrong(alike, good, wrong)
            for value in [[0, 1, 2, 3], None]:
                self.check_wrong(is_alike, {**good, "value": value}, wrong)
            self.check_wrong(own_exchanges, {"room": good["room"]}, {"room": (InvalidRoom, NO_ROOMS)})

    def test_unlike_places(self):
        for first, second in [(4, 5), (1, 24), (12, 13), (13, 14)]:
            for many, more in [(first, second), (second, first)]:
                room, other = Room(many, [1]), Room(more, [1])
                self.check_error(UnlikePlaces, {}, alike, room=room, other=other)
                self.check_error(UnlikePlaces, {}, is_alike, room=room, other=other, value=list(range(many)))
                self.check_error(UnlikePlaces, {}, is_alike, room=room, other=other, value=None)

    def test_more_than_12_places(self):
        for places in range(13, 25):
            room = Room(places, [3])
            self.check_error(TooMany, {"what": "places", "limit": 12}, alike, room=room, other=room)
            self.check_error(TooMany, {"what": "places", "limit": 12}, own_exchanges, room=room)
            self.assertIs(is_alike(room, room, list(range(places))), True)
        self.assertEqual(ons(plain_led(7, alike(Room(12, [7]), Room(12, [56])))), 3)


class TestCopies(Checks):
    def test_told_lists_are_new(self):
        for room, other in [(TWO, CROSS), (NEST, TWO), (TWO, TWO)]:
            self.check_new(alike, room, other)
            self.assertEqual([room, other], [Room(4, room.basis()), Room(4, other.basis())])

    def test_nothing_that_is_passed_is_changed(self):
        value = [0, 2, 1, 3]
        for _ in range(2):
            self.assertIs(is_alike(TWO, CROSS, value), True)
            self.assertEqual(value, [0, 2, 1, 3])


if __name__ == "__main__":
    unittest.main()
