"""Rooms made of rooms: sums, common words, beside one another, shortened, cut, exchanged."""

import itertools
import random
import unittest

from owncontraries.errors import InvalidRoom, InvalidSequence, InvalidWord, TooMany, UnlikePlaces
from owncontraries.mixes import beside, common_room, cut, exchanged, lies_in, shortened, sum_room
from owncontraries.rooms import Room
from tests.checks import Checks
from tests.drawn import GOLAY_WORDS, all_rooms, all_sums, drawn_rooms, even_words, few_rooms, large_rooms, ons
from tests.drawn import room_pairs, units
from tests.values import BELOW_ZERO, NO_ROOMS, NO_SEQUENCES, NO_WORDS

OF_TWO_ALIKE = [sum_room, common_room, lies_in]


def large_pairs():
    """Pairs of rooms of as many places, 23 or 24, of all dimensions."""
    rooms = list(large_rooms())
    chance = random.Random(8)
    found = [pair for pair in itertools.product(rooms, repeat=2) if pair[0].places == pair[1].places]
    return chance.sample(found, 150)


class TestExamples(unittest.TestCase):
    def test_the_examples_of_the_interface(self):
        pairs, other = Room(4, [3, 15, 12]), Room(4, [5, 10])
        told = [sum_room(pairs, other), common_room(pairs, other), lies_in(Room(4, [15]), pairs)]
        told.append(beside(Room(1, []), Room(2, [3])))
        self.assertEqual(repr(told), "[Room(4, [9, 5, 3]), Room(4, [15]), True, Room(3, [6])]")
        told = [shortened(pairs, 7), cut(pairs, 7), exchanged(pairs, [0, 2, 1, 3])]
        told.append(exchanged(Room(4, [3]), [1, 2, 3, 0]))
        self.assertEqual(repr(told), "[Room(4, [3]), Room(4, [4, 3]), Room(4, [10, 5]), Room(4, [6])]")


class TestSumsAndCommonWords(Checks):
    def test_against_words_gone_through(self):
        for room, other in room_pairs():
            words, others = all_sums(room.basis()), all_sums(other.basis())
            with self.subTest(room=room, other=other):
                total = self.asked(sum_room, room=room, other=other)
                self.assertIsInstance(total, Room)
                self.assertEqual(total.places, room.places)
                self.assertEqual(all_sums(total.basis()), sorted({word ^ more for word in words for more in others}))
                common = self.asked(common_room, room=room, other=other)
                self.assertIsInstance(common, Room)
                self.assertEqual(common.places, room.places)
                self.assertEqual(all_sums(common.basis()), sorted(set(words) & set(others)))

    def test_lies_in_against_words_gone_through(self):
        for room, other in room_pairs():
            wanted = set(all_sums(room.basis())) <= set(all_sums(other.basis()))
            self.assertIs(self.truth(lies_in, room=room, other=other), wanted)

    def test_dimensions(self):
        for room, other in list(room_pairs()) + large_pairs():
            total, common = sum_room(room, other), common_room(room, other)
            self.assertEqual(total.dimension + common.dimension, room.dimension + other.dimension)

    def test_either_way_round(self):
        for room, other in list(room_pairs()) + large_pairs():
            self.assertEqual(sum_room(room, other), sum_room(other, room))
            self.assertEqual(common_room(room, other), common_room(other, room))

    def test_they_lie_where_they_must(self):
        for room, other in list(room_pairs()) + large_pairs():
            total, common = sum_room(room, other), common_room(room, other)
            for one in [room, other]:
                self.assertIs(lies_in(one, total), True)
                self.assertIs(lies_in(common, one), True)
            self.assertIs(lies_in(room, other), total == other)
            self.assertIs(lies_in(room, other), common == room)

    def test_with_itself_with_no_words_and_with_all_words(self):
        for room in list(few_rooms()) + list(large_rooms()):
            none, full = Room(room.places, []), Room(room.places, units(room.places))
            self.assertEqual([sum_room(room, room), common_room(room, room)], [room, room])
            self.assertEqual([sum_room(room, none), common_room(room, none)], [room, none])
            self.assertEqual([sum_room(room, full), common_room(room, full)], [full, room])
            self.assertEqual([sum_room(none, room), common_room(full, room)], [room, room])
            told = [lies_in(room, room), lies_in(none, room), lies_in(room, full)]
            self.assertEqual(told, [True, True, True])
            self.assertIs(lies_in(room, none), room.dimension == 0)
            self.assertIs(lies_in(full, room), room.dimension == room.places)

    def test_24_places(self):
        golay, even, full = Room(24, GOLAY_WORDS), Room(24, even_words(24)), Room(24, units(24))
        self.assertEqual(sum_room(golay, even), even)
        self.assertEqual(common_room(golay, even), golay)
        self.assertEqual(sum_room(even, Room(24, [1])), full)
        self.assertEqual(common_room(even, Room(24, units(24)[:12])), Room(24, [1 | word for word in units(24)[1:12]]))
        ups, downs = Room(24, units(24)[12:]), Room(24, units(24)[:12])
        self.assertEqual([sum_room(ups, downs), common_room(ups, downs)], [full, Room(24, [])])
        self.assertIs(lies_in(ups, downs), False)

    def test_wrong_rooms(self):
        for function in OF_TWO_ALIKE:
            good = {"room": Room(4, [3, 12]), "other": Room(4, [5])}
            self.check_wrong(function, good, {"room": (InvalidRoom, NO_ROOMS), "other": (InvalidRoom, NO_ROOMS)})

    def test_unlike_places(self):
        for function in OF_TWO_ALIKE:
            for places, others in [(1, 2), (4, 3), (24, 1), (1, 24), (23, 24), (12, 6)]:
                for words in [[], [1]]:
                    named = {"room": Room(places, words), "other": Room(others, words)}
                    self.check_error(UnlikePlaces, {}, function, **named)


class TestBeside(Checks):
    def test_against_words_gone_through(self):
        rooms = all_rooms(1) + all_rooms(2) + all_rooms(3) + list(drawn_rooms(2, [4, 5]))
        for room, other in itertools.product(rooms, repeat=2):
            told = self.asked(beside, room=room, other=other)
            self.assertIsInstance(told, Room)
            self.assertEqual(told.places, room.places + other.places)
            self.assertEqual(told.dimension, room.dimension + other.dimension)
            upper = [word * 2 ** room.places for word in all_sums(other.basis())]
            wanted = sorted(word + more for word in all_sums(room.basis()) for more in upper)
            self.assertEqual(all_sums(told.basis()), wanted)

    def test_the_sequence_matters(self):
        self.assertEqual(beside(Room(2, [3]), Room(1, [])), Room(3, [3]))
        self.assertEqual(beside(Room(1, []), Room(2, [3])), Room(3, [6]))

    def test_three_either_way_round(self):
        rooms = all_rooms(1) + all_rooms(2) + [Room(3, [5]), Room(4, [3, 12]), Room(5, [31, 6])]
        for room, other, third in itertools.product(rooms, repeat=3):
            self.assertEqual(beside(beside(room, other), third), beside(room, beside(other, third)))

    def test_just_24_places(self):
        for places in range(1, 24):
            room, other = Room(places, units(places)), Room(24 - places, units(24 - places))
            self.assertEqual(beside(room, other), Room(24, units(24)))
            upper = Room(24, units(24)[places:])
            self.assertEqual(beside(Room(places, []), other), upper)
            self.assertEqual(beside(room, Room(24 - places, [])), Room(24, units(places)))

    def test_more_than_24_places(self):
        for places, others in [(1, 24), (24, 1), (12, 13), (13, 12), (24, 24), (23, 2)]:
            for words in [[], [1]]:
                named = {"room": Room(places, words), "other": Room(others, words)}
                self.check_error(TooMany, {"what": "places", "limit": 24}, beside, **named)

    def test_wrong_rooms(self):
        for room in [Room(4, [3, 12]), Room(24, [])]:
            wrong = {"room": (InvalidRoom, NO_ROOMS), "other": (InvalidRoom, NO_ROOMS)}
            self.check_wrong(beside, {"room": room, "other": room}, wrong)


class TestShortenedAndCut(Checks):
    def test_against_words_gone_through(self):
        for room in few_rooms():
            chance = random.Random(room.dimension)
            some = list(range(2 ** room.places))
            if room.places > 4:
                some = [0, 2 ** room.places - 1] + chance.sample(some, 6)
            words = all_sums(room.basis())
            for word in some:
                with self.subTest(room=room, word=word):
                    short = self.asked(shortened, room=room, word=word)
                    self.assertIsInstance(short, Room)
                    self.assertEqual(short.places, room.places)
                    wanted = [one for one in words if one & word == one]
                    self.assertEqual(all_sums(short.basis()), wanted)
                    part = self.asked(cut, room=room, word=word)
                    self.assertIsInstance(part, Room)
                    self.assertEqual(part.places, room.places)
                    self.assertEqual(all_sums(part.basis()), sorted({one & word for one in words}))

    def test_dimensions(self):
        for room in list(few_rooms()) + list(large_rooms()):
            chance = random.Random(room.dimension)
            everywhere = 2 ** room.places - 1
            for word in [0, everywhere] + [chance.randrange(everywhere + 1) for _ in range(6)]:
                short, rest = shortened(room, word), cut(room, everywhere ^ word)
                self.assertEqual(short.dimension + rest.dimension, room.dimension)
                self.assertIs(lies_in(short, room), True)
                self.assertIs(lies_in(short, cut(room, word)), True)

    def test_by_no_place_and_by_all_places(self):
        for room in list(few_rooms()) + list(large_rooms()):
            none, everywhere = Room(room.places, []), 2 ** room.places - 1
            self.assertEqual([shortened(room, 0), cut(room, 0)], [none, none])
            self.assertEqual([shortened(room, everywhere), cut(room, everywhere)], [room, room])

    def test_24_places(self):
        golay = Room(24, GOLAY_WORDS)
        self.assertEqual(shortened(golay, 2 ** 12 - 1).dimension + cut(golay, (2 ** 12 - 1) << 12).dimension, 12)
        eight = [word for word in all_sums(GOLAY_WORDS) if ons(word) == 8][0]
        self.assertEqual(shortened(golay, eight), Room(24, [eight]))
        self.assertEqual(cut(golay, eight).dimension, 7)
        even = Room(24, even_words(24))
        self.assertEqual(shortened(even, 7), Room(24, [3, 5]))
        self.assertEqual(cut(even, 7), Room(24, [1, 2, 4]))
        self.assertEqual(shortened(even, 2 ** 24 - 2), Room(24, [2 | word for word in units(24)[2:]]))

    def test_wrong_rooms_and_words(self):
        for function in [shortened, cut]:
            for places, more in [(4, [16, 17]), (1, [2, 3]), (24, [])]:
                wrong = {"room": (InvalidRoom, NO_ROOMS), "word": (InvalidWord, NO_WORDS + more)}
                self.check_wrong(function, {"room": Room(places, [1]), "word": 1}, wrong)

    def test_each_number_of_places_has_its_own_words(self):
        for function in [shortened, cut]:
            for places in range(1, 25):
                room = Room(places, [1])
                self.assertEqual(function(room, 2 ** places - 1), room)
                self.check_error(InvalidWord, {"value": 2 ** places}, function, room=room, word=2 ** places)


class TestExchanged(Checks):
    def led(self, word, sequence):
        return sum(2 ** sequence[place] for place in range(len(sequence)) if word & 2 ** place)

    def test_against_words_gone_through(self):
        for places in [1, 2, 3, 4]:
            for room in all_rooms(places):
                words = all_sums(room.basis())
                for sequence in itertools.permutations(range(places)):
                    told = self.asked(exchanged, room=room, sequence=list(sequence))
                    self.assertIsInstance(told, Room)
                    self.assertEqual(told.places, places)
                    self.assertEqual(all_sums(told.basis()), sorted(self.led(word, sequence) for word in words))

    def drawn(self):
        chance = random.Random(16)
        for room in list(drawn_rooms(16, [5, 6, 7, 8])) + list(large_rooms()):
            for _ in range(3):
                sequence = list(range(room.places))
                chance.shuffle(sequence)
                yield room, sequence

    def test_the_words_led_are_in_it_and_no_more(self):
        for room, sequence in self.drawn():
            told = self.asked(exchanged, room=room, sequence=sequence)
            self.assertEqual(told.dimension, room.dimension)
            for word in room.basis():
                self.assertTrue(told.has(self.led(word, sequence)))

    def test_the_sequence_that_leads_back(self):
        for room, sequence in self.drawn():
            back = [sequence.index(place) for place in range(room.places)]
            self.assertEqual(exchanged(exchanged(room, sequence), back), room)
            self.assertEqual(exchanged(exchanged(room, back), sequence), room)

    def test_one_sequence_behind_another(self):
        chance = random.Random(4)
        for room, sequence in self.drawn():
            other = list(range(room.places))
            chance.shuffle(other)
            together = [other[place] for place in sequence]
            self.assertEqual(exchanged(exchanged(room, sequence), other), exchanged(room, together))

    def test_weights_stay(self):
        for room, sequence in self.drawn():
            if room.dimension <= 10:
                told = exchanged(room, tuple(sequence))
                wanted = sorted(ons(word) for word in all_sums(room.basis()))
                self.assertEqual(sorted(ons(word) for word in all_sums(told.basis())), wanted)

    def test_all_places_where_they_are(self):
        for room in list(few_rooms()) + list(large_rooms()):
            self.assertEqual(exchanged(room, list(range(room.places))), room)

    def test_a_tuple(self):
        self.assertEqual(exchanged(Room(4, [3]), (1, 2, 3, 0)), Room(4, [6]))

    def test_wrong_rooms_and_sequences(self):
        wrong = {"room": (InvalidRoom, NO_ROOMS), "sequence": (InvalidSequence, NO_SEQUENCES)}
        for words in [[], [3, 12], [1, 2, 4, 8]]:
            self.check_wrong(exchanged, {"room": Room(4, words), "sequence": [0, 2, 1, 3]}, wrong)

    def test_sequences_of_other_numbers_of_places(self):
        for places in range(1, 25):
            for many in {1, places - 1, places + 1, 24} - {0, places}:
                sequence = list(range(many))
                self.check_error(
                    InvalidSequence, {"value": sequence}, exchanged, room=Room(places, []), sequence=sequence
                )


class TestCopies(Checks):
    def test_nothing_that_is_passed_is_changed(self):
        room, other, sequence = Room(4, [3, 12]), Room(4, [5, 10]), [3, 1, 0, 2]
        made = [sum_room(room, other), common_room(room, other), beside(room, other), shortened(room, 7), cut(room, 6)]
        made.append(exchanged(room, sequence))
        self.assertEqual((room, other), (Room(4, [3, 12]), Room(4, [5, 10])))
        self.assertEqual(sequence, [3, 1, 0, 2])
        shown = repr(made)
        sequence[0] = 0
        room.basis().append(1)
        for one in made:
            one.basis().append(1)
        self.assertEqual(repr(made), shown)

    def test_a_failed_call_changes_nothing(self):
        room, sequence = Room(4, [3, 12]), [0, 1, 2, 2]
        for error, call in [
            (InvalidSequence, lambda: exchanged(room, sequence)),
            (InvalidWord, lambda: cut(room, BELOW_ZERO[0])),
            (InvalidWord, lambda: shortened(room, 16)),
            (UnlikePlaces, lambda: sum_room(room, Room(3, []))),
            (TooMany, lambda: beside(room, Room(21, []))),
        ]:
            with self.assertRaises(error):
                call()
        self.assertEqual((room, sequence), (Room(4, [3, 12]), [0, 1, 2, 2]))


if __name__ == "__main__":
    unittest.main()
