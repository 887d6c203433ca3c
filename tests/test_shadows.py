"""Shadow words, shadow rows, and the two own rooms by fours beside an own room."""

import random
import unittest

from owncontraries.contraries import contrary, is_own, is_still
from owncontraries.errors import ByFours, InvalidRoom, NotEights, NotOwn, NotStill
from owncontraries.fours import fours_half, is_by_fours
from owncontraries.mixes import common_room, lies_in
from owncontraries.rooms import Room
from owncontraries.shadows import beside_two, is_shadow_word, shadow_row, shadow_word
from owncontraries.weights import row
from tests.checks import Checks
from tests.drawn import EIGHT_WORDS, GOLAY_WORDS, all_rooms, all_sums, drawn_fours_rooms, drawn_own_rooms, even_words
from tests.drawn import few_rooms, lot_words, ons, own_rooms, own_rooms_of, pair_words, still_rooms, units
from tests.values import NO_INTEGERS, NO_ROOMS, NO_WORDS

ALL_FOUR = [shadow_word, lambda room: is_shadow_word(room, 0), shadow_row, beside_two]


def halves(words, word):
    """Whether the word meets each of the words in a number that leaves by 2 what half its weight leaves."""
    return all(ons(one & word) % 2 == ons(one) // 2 % 2 for one in words)


def plain_shadow(room):
    """All shadow words of a still room of a few places, all words gone through one by one."""
    words = all_sums(room.basis())
    return [word for word in range(2 ** room.places) if halves(words, word)]


def few_still_rooms():
    """All still rooms of up to five places, drawn ones to nine, by fours, and own ones of up to eight."""
    for places in [1, 2, 3, 4, 5]:
        yield from [room for room in all_rooms(places) if is_still(room)]
    yield from still_rooms(81, [6, 7, 8, 9])
    yield from still_rooms(82, [6, 7, 8, 9], 4)
    for places, step in [(6, 3), (8, 17)]:
        yield from own_rooms_of(places)[::step]


def large_own_rooms():
    """Own rooms of up to 24 places."""
    yield from own_rooms()
    yield from drawn_own_rooms(83, range(2, 25, 2))
    yield from drawn_fours_rooms(84, [8, 16])


def rooms_beside_two():
    """Own rooms of 8, 16 and 24 places that are not by fours."""
    yield from [room for room in own_rooms_of(8)[::5] if not is_by_fours(room)]
    rooms = list(own_rooms()) + list(drawn_own_rooms(85, [16, 16, 24, 24]))
    yield from [room for room in rooms if room.places % 8 == 0 and not is_by_fours(room)]


class TestExamples(unittest.TestCase):
    def test_the_examples_of_the_interface(self):
        eight, pairs = Room(8, [255, 15, 51, 85]), Room(4, [3, 12])
        four_pairs = Room(8, [3, 12, 48, 192])
        told = [shadow_row(Room(2, [3])), shadow_row(four_pairs), is_shadow_word(pairs, 5), is_shadow_word(pairs, 3)]
        told.append(is_shadow_word(eight, 0))
        self.assertEqual(repr(told), "[[0, 2, 0], [0, 0, 0, 0, 16, 0, 0, 0, 0], True, False, True]")
        two = beside_two(four_pairs)
        told = [[is_by_fours(room) for room in two], [room.has(85) for room in two]]
        self.assertEqual(repr(told), "[[True, True], [False, True]]")


class TestShadowWords(Checks):
    def test_against_all_words(self):
        for room in few_still_rooms():
            wanted = plain_shadow(room)
            told = self.asked(shadow_word, room=room)
            self.assertIs(type(told), int)
            self.assertIn(told, wanted)
            self.assertEqual(len(wanted), 2 ** (room.places - room.dimension))
            found = [word for word in range(2 ** room.places) if is_shadow_word(room, word)]
            self.assertEqual(found, wanted)

    def test_rooms_of_more_places(self):
        chance = random.Random(86)
        for room in large_own_rooms():
            words = all_sums(room.basis())
            told = self.asked(shadow_word, room=room)
            self.assertTrue(halves(words, told))
            for word in [told, told ^ words[-1], told ^ words[len(words) // 3]]:
                self.assertIs(self.truth(is_shadow_word, room=room, value=word), True)
            for word in [0, chance.randrange(2 ** room.places), told ^ 1, told ^ 2 ** (room.places - 1)]:
                self.assertIs(self.truth(is_shadow_word, room=room, value=word), halves(words, word))

    def test_sums_with_words_of_the_contrary(self):
        for room in [Room(24, GOLAY_WORDS[:5]), Room(23, [15, 51, 3]), Room(9, [3, 12]), Room(7, [30, 102])]:
            told = shadow_word(room)
            for word in contrary(room).basis():
                self.assertIs(is_shadow_word(room, told ^ word), True)
            for unit in units(room.places):
                met = any(word & unit for word in room.basis())
                self.assertIs(is_shadow_word(room, told ^ unit), not met)

    def test_0_is_one_exactly_by_fours(self):
        for room in list(few_still_rooms()) + list(large_own_rooms()):
            self.assertIs(is_shadow_word(room, 0), is_by_fours(room))

    def test_values_that_are_no_words(self):
        for room in [Room(1, []), Room(2, [3]), Room(4, []), Room(4, [3, 12]), Room(8, EIGHT_WORDS)]:
            places = room.places
            for value in NO_WORDS + NO_INTEGERS + [2 ** places, 2 ** places + 1, -1, -(2 ** places), [0], (0,), "0"]:
                with self.subTest(room=room, value=repr(value)):
                    self.assertIs(self.truth(is_shadow_word, room=room, value=value), False)
        told = [is_shadow_word(Room(2, []), value) for value in [0, 1, False, True]]
        self.assertEqual(told, [True, True, False, False])
        self.assertEqual([is_shadow_word(Room(2, [3]), value) for value in [1, True, 2, 3]], [True, False, True, False])


class TestShadowRow(Checks):
    def test_against_all_words(self):
        for places, step in [(2, 1), (4, 1), (6, 1), (8, 9)]:
            for room in own_rooms_of(places)[::step] + list(drawn_own_rooms(87, [10])):
                weights = [ons(word) for word in plain_shadow(room)]
                told = self.asked(shadow_row, room=room)
                self.assertIs(type(told), list)
                self.assertEqual(told, [weights.count(weight) for weight in range(room.places + 1)])

    def test_against_the_words_that_are_even_to_the_half_alone(self):
        for room in large_own_rooms():
            if is_by_fours(room):
                continue
            own = set(all_sums(room.basis()))
            weights = [ons(word) for word in all_sums(contrary(fours_half(room)).basis()) if word not in own]
            told = self.asked(shadow_row, room=room)
            self.assertEqual(told, [weights.count(weight) for weight in range(room.places + 1)])

    def test_the_sum_and_the_noughts(self):
        for room in large_own_rooms():
            told = shadow_row(room)
            self.assertEqual((len(told), sum(told)), (room.places + 1, 2 ** (room.places // 2)))
            for weight, number in enumerate(told):
                self.assertIs(type(number), int)
                if (weight - room.places // 2) % 4:
                    self.assertEqual(number, 0)

    def test_of_a_room_by_fours_its_row(self):
        rooms = [Room(8, EIGHT_WORDS), Room(24, GOLAY_WORDS)] + list(drawn_fours_rooms(88, [8, 16, 24]))
        for room in rooms:
            self.assertEqual(shadow_row(room), row(room))

    def test_copies(self):
        for room in [Room(2, [3]), Room(8, EIGHT_WORDS)]:
            self.check_new(shadow_row, room)


class TestBesideTwo(Checks):
    def test_own_by_fours_and_sorted(self):
        rooms = list(rooms_beside_two())
        self.assertEqual({room.places for room in rooms}, {8, 16, 24})
        for room in rooms:
            told = self.asked(beside_two, room=room)
            self.assertEqual((type(told), len(told)), (list, 2))
            first, second = told
            self.assertLess(first.basis(), second.basis())
            half = fours_half(room)
            for one in told:
                self.assertIsInstance(one, Room)
                self.assertEqual([one.places, is_own(one), is_by_fours(one)], [room.places, True, True])
                self.assertIs(lies_in(half, one), True)
                self.assertEqual(common_room(one, room), half)
            self.assertEqual(common_room(first, second), half)

    def test_half_of_the_shadow_words_in_each(self):
        for room in rooms_beside_two():
            first, second = [set(all_sums(one.basis())) for one in beside_two(room)]
            own = set(all_sums(room.basis()))
            self.assertEqual(len(first - own), len(own) // 2)
            shadow = (first | second) - own
            self.assertEqual(len(shadow), len(own))
            for word in sorted(shadow)[:: max(1, len(shadow) // 16)]:
                self.assertIs(is_shadow_word(room, word), True)

    def test_against_all_own_rooms_of_eight_places(self):
        every = [room for room in own_rooms_of(8) if is_by_fours(room)]
        for room in own_rooms_of(8)[::5]:
            if is_by_fours(room):
                continue
            half = {word for word in all_sums(room.basis()) if ons(word) % 4 == 0}
            wanted = [one for one in every if half <= set(all_sums(one.basis()))]
            self.assertEqual(beside_two(room), sorted(wanted, key=lambda one: one.basis()))

    def test_copies(self):
        for room in [Room(8, pair_words(8)), Room(16, pair_words(16))]:
            self.check_new(beside_two, room)
            beside_two(room)[0].basis().append(1)
            self.assertEqual(room, Room(room.places, pair_words(room.places)))


class TestWrong(Checks):
    def test_wrong_rooms(self):
        for function in [shadow_word, shadow_row, beside_two]:
            self.check_wrong(function, {"room": Room(8, pair_words(8))}, {"room": (InvalidRoom, NO_ROOMS)})
        for value in [0, None, "word"]:
            good = {"room": Room(2, [3]), "value": value}
            self.check_wrong(is_shadow_word, good, {"room": (InvalidRoom, NO_ROOMS)})

    def test_rooms_that_are_not_still(self):
        rooms = [room for room in few_rooms() if not is_still(room)]
        for places in range(3, 25):
            rooms += [Room(places, units(places)), Room(places, even_words(places)), Room(places, [3, 6])]
        for room in rooms:
            self.check_error(NotStill, {}, shadow_word, room=room)
            for value in [0, 1, 2 ** 24, None]:
                self.check_error(NotStill, {}, is_shadow_word, room=room, value=value)

    def test_rooms_that_are_not_own(self):
        rooms = [room for room in list(few_rooms()) + list(few_still_rooms()) if not is_own(room)]
        for places in range(1, 25):
            rooms += [Room(places, []), Room(places, [2 ** places - 1] * (places > 2)), Room(places, units(places))]
        # by fours, and of places that 8 does not divide, but not own
        rooms += [Room(8, EIGHT_WORDS[:3]), Room(12, [15]), Room(24, GOLAY_WORDS[1:]), Room(6, [3, 12])]
        for room in rooms:
            self.check_error(NotOwn, {}, shadow_row, room=room)
            self.check_error(NotOwn, {}, beside_two, room=room)

    def test_rooms_by_fours(self):
        rooms = [Room(8, EIGHT_WORDS), Room(16, lot_words(16)), Room(24, GOLAY_WORDS)]
        for room in rooms + list(drawn_fours_rooms(89, [8, 16, 24])):
            self.check_error(ByFours, {}, beside_two, room=room)

    def test_places_that_8_does_not_divide(self):
        for room in large_own_rooms():
            if room.places % 8:
                self.check_error(NotEights, {}, beside_two, room=room)
        self.assertEqual(len(beside_two(Room(16, pair_words(16)))), 2)


if __name__ == "__main__":
    unittest.main()
