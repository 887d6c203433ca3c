"""Rooms: what words make, the plain basis, what is had, copies, wrong inputs."""

import itertools
import random
import unittest

from owncontraries.errors import InvalidPlaces, InvalidWord, InvalidWords, TooMany
from owncontraries.rooms import Room
from tests.drawn import all_sums, units
from tests.values import LISTS, NO_NUMBERS, NO_PLACES, NO_WORDS, Plain


def some_lists():
    """Pairs of places and a list of words: all short lists for few places, some lists for more."""
    for places in [1, 2, 3]:
        for many in range(4):
            for words in itertools.product(range(2 ** places), repeat=many):
                yield places, list(words)
    chance = random.Random(12)
    for places in range(4, 25):
        for many in [0, 1, 2, 3, 5, 8]:
            yield places, [chance.randrange(2 ** places) for _ in range(many)]


class TestExamples(unittest.TestCase):
    def test_the_example_of_the_interface(self):
        pairs = Room(4, [3, 15, 12])
        told = [pairs, pairs.dimension, pairs.has(15), pairs.has(5), pairs.words(), Room(4, (12, 3)) == pairs]
        told.append(Room(2, []).words())
        self.assertEqual(repr(told), "[Room(4, [12, 3]), 2, True, False, [0, 3, 12, 15], True, [0]]")


class TestMade(unittest.TestCase):
    def test_no_words(self):
        for places in range(1, 25):
            for words in [[], (), [0], [0, 0]]:
                room = Room(places, words)
                told = (room.places, room.dimension, room.basis(), room.words())
                self.assertEqual(told, (places, 0, [], [0]))

    def test_all_words(self):
        for places in range(1, 6):
            room = Room(places, list(range(2 ** places)))
            self.assertEqual(room.words(), list(range(2 ** places)))
            self.assertEqual(room.dimension, places)
            self.assertEqual(room.basis(), sorted(units(places), reverse=True))

    def test_all_words_of_24_places(self):
        room = Room(24, units(24))
        self.assertEqual(room.dimension, 24)
        self.assertEqual(room.basis(), sorted(units(24), reverse=True))
        self.assertTrue(all(room.has(word) for word in [0, 1, 2 ** 24 - 1, 123456, 2 ** 23]))

    def test_words_some_of_which_are_sums_of_others(self):
        room = Room(6, [7, 56, 63, 0, 7, 9, 14, 49])
        self.assertEqual(room, Room(6, [7, 56, 9]))
        self.assertEqual(room.words(), all_sums([7, 56, 9]))
        self.assertEqual(room.dimension, 3)

    def test_words_in_any_sequence_and_more_than_once(self):
        wanted = Room(5, [1, 6, 28, 18])
        for words in itertools.permutations([1, 6, 28, 18]):
            self.assertEqual(Room(5, words), wanted)
            self.assertEqual(Room(5, list(words) + list(words)).basis(), wanted.basis())
            self.assertEqual(repr(Room(5, list(words) * 3)), repr(wanted))

    def test_by_the_names(self):
        self.assertEqual(Room(places=4, words=[3, 12]), Room(4, [3, 12]))
        self.assertEqual(Room(words=(3,), places=2), Room(2, [3]))

    def test_48_words(self):
        self.assertEqual(Room(4, [15] * 48).basis(), [15])
        self.assertEqual(Room(24, units(24) + [3] * 24).dimension, 24)
        self.assertEqual(Room(3, (5,) * 48).words(), [0, 5])


class TestPlainBasis(unittest.TestCase):
    def test_falling_and_highest_places_off_in_all_others(self):
        for places, words in some_lists():
            basis = Room(places, words).basis()
            self.assertIsInstance(basis, list)
            self.assertEqual(basis, sorted(set(basis), reverse=True))
            for word in basis:
                self.assertGreater(word, 0)
                top = 2 ** (len(format(word, "b")) - 1)
                self.assertEqual([other for other in basis if other & top], [word])

    def test_its_sums_are_the_sums_of_the_words(self):
        for places, words in some_lists():
            self.assertEqual(all_sums(Room(places, words).basis()), all_sums(words))

    def test_each_room_has_just_one(self):
        found = {}
        for places in [1, 2, 3]:
            for many in range(4):
                for words in itertools.product(range(2 ** places), repeat=many):
                    key = (places, tuple(all_sums(words)))
                    basis = Room(places, words).basis()
                    self.assertEqual(found.setdefault(key, basis), basis)
        self.assertEqual(len(found), 2 + 5 + 16)

    def test_told_ones(self):
        self.assertEqual(Room(4, [9, 10, 12]).basis(), [9, 5, 3])
        self.assertEqual(Room(4, [4, 7]).basis(), [4, 3])
        self.assertEqual(Room(8, [15, 51, 85, 255]).basis(), [150, 85, 51, 15])
        self.assertEqual(Room(3, [7, 6, 5]).basis(), [4, 2, 1])


class TestAsked(unittest.TestCase):
    def test_the_dimension(self):
        for places, words in some_lists():
            room = Room(places, words)
            self.assertEqual(2 ** room.dimension, len(all_sums(words)))
            self.assertEqual(room.dimension, len(room.basis()))
            self.assertEqual(room.places, places)

    def test_the_words(self):
        for places, words in some_lists():
            told = Room(places, words).words()
            self.assertIsInstance(told, list)
            self.assertEqual(told, all_sums(words))

    def test_has_for_each_word_of_a_few_places(self):
        for places, words in some_lists():
            if places > 6:
                continue
            room = Room(places, words)
            sums = all_sums(words)
            for word in range(2 ** places):
                self.assertIs(room.has(word), word in sums)

    def test_has_for_some_words_of_many_places(self):
        chance = random.Random(5)
        for places, words in some_lists():
            if places > 6:
                room = Room(places, words)
                sums = set(all_sums(words))
                for word in sorted(sums)[:20] + [chance.randrange(2 ** places) for _ in range(20)]:
                    self.assertIs(room.has(word), word in sums)

    def test_no_word_but_0_is_off_at_all_highest_places(self):
        for places, words in some_lists():
            room = Room(places, words)
            tops = sum(2 ** (len(format(word, "b")) - 1) for word in room.basis())
            self.assertEqual([word for word in room.words() if not word & tops], [0])

    def test_has_by_the_name(self):
        self.assertIs(Room(3, [5]).has(word=5), True)
        self.assertIs(Room(3, [5]).has(word=4), False)

    def test_repr(self):
        self.assertEqual(repr(Room(4, [3, 12])), "Room(4, [12, 3])")
        self.assertEqual(repr(Room(4, (15, 3))), "Room(4, [12, 3])")
        self.assertEqual(repr(Room(1, [])), "Room(1, [])")
        self.assertEqual(repr(Room(24, [2 ** 23, 1])), "Room(24, [8388608, 1])")
        for places, words in some_lists():
            room = Room(places, words)
            self.assertEqual(repr(room), "Room(" + str(places) + ", " + str(room.basis()) + ")")
            self.assertEqual(eval(repr(room)), room)

    def test_a_repeated_call_tells_the_same(self):
        for places, words in some_lists():
            room = Room(places, words)
            first = (room.basis(), room.words(), room.dimension, room.places, repr(room), room.has(1))
            second = (room.basis(), room.words(), room.dimension, room.places, repr(room), room.has(1))
            self.assertEqual(first, second)


class TestEqual(unittest.TestCase):
    def test_made_again_of_its_basis_its_words_and_other_words(self):
        for places, words in some_lists():
            room = Room(places, words)
            makings = [words, list(reversed(words)), tuple(words), room.basis(), room.basis() + words]
            if room.dimension < 6:
                makings.append(room.words()[:48])
            makings.append([word ^ first for first in room.basis()[:1] for word in room.basis()[1:]] + room.basis()[:1])
            for making in makings:
                again = Room(places, making)
                self.assertIs(again == room, True)
                self.assertIs(room == again, True)
                self.assertIs(room != again, False)

    def test_unlike_words(self):
        rooms = [Room(3, words) for words in [[], [1], [2], [3], [7], [1, 2], [1, 4], [3, 5], [1, 2, 4]]]
        for first, second in itertools.combinations(rooms, 2):
            self.assertIs(first == second, False)
            self.assertIs(first != second, True)

    def test_equal_exactly_if_the_words_are(self):
        lists = [(places, words) for places, words in some_lists() if places <= 2]
        for (places, words), (others, more) in itertools.product(lists, repeat=2):
            wanted = places == others and all_sums(words) == all_sums(more)
            self.assertIs(Room(places, words) == Room(others, more), wanted)

    def test_unlike_places(self):
        for words in [[], [1], [3], [1, 2]]:
            for places, others in itertools.combinations([2, 3, 4, 24], 2):
                self.assertIs(Room(places, words) == Room(others, words), False)
                self.assertIs(Room(places, words) != Room(others, words), True)

    def test_no_value_of_another_kind(self):
        for room in [Room(4, [3, 12]), Room(1, []), Room(1, [1])]:
            parts = [room.places, room.basis(), room.words(), (room.places, room.basis()), repr(room)]
            for value in NO_NUMBERS + LISTS + parts + [0, 1, -1]:
                with self.subTest(room=room, value=value):
                    self.assertIs(room == value, False)
                    self.assertIs(room != value, True)


class TestCopies(unittest.TestCase):
    def test_the_passed_list_may_be_changed(self):
        words = [3, 12]
        room = Room(4, words)
        words.append(5)
        words[0] = 1
        self.assertEqual((room.basis(), room.words(), repr(room)), ([12, 3], [0, 3, 12, 15], "Room(4, [12, 3])"))
        del words[:]
        self.assertEqual(room, Room(4, [12, 3]))

    def test_the_passed_list_is_not_changed(self):
        words = [15, 3, 3, 0, 12]
        Room(4, words)
        self.assertEqual(words, [15, 3, 3, 0, 12])
        basis = Room(4, words).basis()
        Room(4, basis)
        self.assertEqual(basis, [12, 3])

    def test_a_plain_basis_that_is_passed_is_copied(self):
        basis = [12, 3]
        room = Room(4, basis)
        basis.append(1)
        self.assertEqual(room.basis(), [12, 3])

    def test_the_told_lists_may_be_changed(self):
        room = Room(4, [3, 12])
        for told, wanted in [(room.basis, [12, 3]), (room.words, [0, 3, 12, 15])]:
            first = told()
            first.append(1)
            first[0] = 7
            self.assertEqual(told(), wanted)
            self.assertEqual(room.dimension, 2)
            self.assertIs(room.has(1), False)
            self.assertIsNot(told(), told())
            del told()[:]
            self.assertEqual(told(), wanted)
        self.assertEqual(repr(room), "Room(4, [12, 3])")
        empty = Room(2, [])
        empty.basis().append(3)
        empty.words().append(3)
        self.assertEqual((empty.basis(), empty.words(), empty.has(3)), ([], [0], False))

    def test_a_failed_call_changes_nothing(self):
        room = Room(9, units(9))
        with self.assertRaises(TooMany):
            room.words()
        with self.assertRaises(InvalidWord):
            room.has(512)
        self.assertEqual(room, Room(9, units(9)))

    def test_places_and_dimension_cannot_be_set(self):
        room = Room(4, [3])
        with self.assertRaises(AttributeError):
            room.places = 5
        with self.assertRaises(AttributeError):
            room.dimension = 5
        self.assertEqual((room.places, room.dimension), (4, 1))


class TestWrong(unittest.TestCase):
    def check_words(self, places, words, position):
        with self.assertRaises(InvalidWords) as caught:
            Room(places, words)
        self.assertEqual(caught.exception.position, position)
        self.assertNotIsInstance(caught.exception.position, bool)

    def test_wrong_places(self):
        for places in NO_PLACES:
            with self.subTest(places=places):
                for words in [[], [1], "no list", [True]]:
                    with self.assertRaises(InvalidPlaces) as caught:
                        Room(places, words)
                    self.assertIs(caught.exception.value, places)

    def test_words_that_are_no_list(self):
        for words in NO_NUMBERS + [0, 3, -1, {0: 1}, Room(4, [3]), Plain()]:
            with self.subTest(words=words):
                self.check_words(4, words, None)

    def test_49_words(self):
        for places in [1, 4, 24]:
            self.assertEqual(Room(places, [1] * 48), Room(places, [1]))
            self.check_words(places, [1] * 49, None)
            self.check_words(places, (1,) * 49, None)
            self.check_words(places, [0] * 200, None)

    def test_too_many_comes_ahead_of_a_wrong_word(self):
        self.check_words(4, [16] * 49, None)
        self.check_words(4, [True] + [1] * 48, None)
        self.check_words(4, [1] * 47 + ["x"], 47)
        self.check_words(4, [16] * 48, 0)

    def test_the_first_number_that_is_no_word(self):
        for places in range(1, 25):
            self.assertEqual(Room(places, [2 ** places - 1]).dimension, 1)
            self.check_words(places, [2 ** places], 0)
            self.check_words(places, [0, 1, 2 ** places], 2)

    def test_the_position_of_the_first_that_is_no_word(self):
        for wrong in NO_WORDS + [16, 17, Room(4, [])]:
            with self.subTest(wrong=wrong):
                self.check_words(4, [wrong], 0)
                self.check_words(4, (wrong, wrong), 0)
                self.check_words(4, [3, wrong], 1)
                self.check_words(4, [3, 12, 15, wrong, 1, wrong, 99], 3)
                self.check_words(4, [1] * 47 + [wrong], 47)

    def test_truths_are_no_words(self):
        self.check_words(4, [True], 0)
        self.check_words(4, [0, False], 1)
        self.check_words(4, [1, 2, True, False], 2)

    def test_has_what_is_no_word_of_its_places(self):
        for room in [Room(4, [3, 12]), Room(4, [])]:
            for word in NO_WORDS + [16, 17, 2 ** 23]:
                with self.subTest(room=room, word=word):
                    with self.assertRaises(InvalidWord) as caught:
                        room.has(word)
                    self.assertIs(caught.exception.value, word)

    def test_has_at_the_edge_of_each_number_of_places(self):
        for places in range(1, 25):
            room = Room(places, [2 ** places - 1])
            self.assertIs(room.has(2 ** places - 1), True)
            with self.assertRaises(InvalidWord) as caught:
                room.has(2 ** places)
            self.assertEqual(caught.exception.value, 2 ** places)

    def test_words_at_the_dimension_8_and_9(self):
        self.assertEqual(Room(8, units(8)).words(), list(range(256)))
        eight = [3 * 2 ** (3 * at) for at in range(8)]
        self.assertEqual(Room(24, eight).words(), all_sums(eight))
        for room in [Room(9, units(9)), Room(24, units(9)), Room(24, units(24))]:
            with self.subTest(room=room):
                with self.assertRaises(TooMany) as caught:
                    room.words()
                self.assertEqual((caught.exception.what, caught.exception.limit), ("dimension", 8))


if __name__ == "__main__":
    unittest.main()
