"""Words: which numbers are words, their weights and places, how they meet."""

import itertools
import unittest

from owncontraries.errors import InvalidPlaces, InvalidSpots, InvalidWord
from owncontraries.rooms import Room
from owncontraries.words import are_even, is_word, places_of, weight, word_of
from tests.values import NO_COUNTS, NO_NUMBERS, NO_PLACES, NO_WORDS

ALL = 2 ** 24 - 1
SOME_WORDS = [0, 1, 2, 3, 5, 13, 2 ** 12, 2 ** 23, 2 ** 23 + 1, 0b101010101010101010101010, ALL - 1, ALL]


def plain_places(word):
    """The places of a word, told by its digits."""
    return [place for place, digit in enumerate(reversed(format(word, "b"))) if digit == "1"]


class TestExamples(unittest.TestCase):
    def test_the_example_of_the_interface(self):
        told = [is_word(4, 12), is_word(4, 16), weight(13), are_even(12, 5), places_of(13), word_of([3, 0])]
        self.assertEqual(repr(told), "[True, False, 3, False, [0, 2, 3], 9]")

    def test_places_0_2_and_3_make_13(self):
        self.assertEqual(word_of([0, 2, 3]), 1 + 4 + 8)
        self.assertEqual(places_of(13), [0, 2, 3])


class TestIsWord(unittest.TestCase):
    def test_the_words_of_each_number_of_places(self):
        for places in range(1, 25):
            with self.subTest(places=places):
                self.assertIs(is_word(places, 0), True)
                self.assertIs(is_word(places, 1), True)
                self.assertIs(is_word(places, 2 ** places - 1), True)
                self.assertIs(is_word(places, 2 ** places), False)
                self.assertIs(is_word(places, 2 ** places + 1), False)
                self.assertIs(is_word(places, -1), False)

    def test_all_numbers_for_few_places(self):
        for places in range(1, 6):
            found = [value for value in range(-40, 80) if is_word(places, value)]
            self.assertEqual(found, list(range(2 ** places)))

    def test_values_of_no_kind_of_word(self):
        for places in range(1, 25):
            for value in NO_WORDS + [Room(1, []), Room(4, [3])]:
                with self.subTest(places=places, value=value):
                    self.assertIs(is_word(places, value), False)

    def test_truths_are_no_words(self):
        for places in [1, 2, 24]:
            self.assertIs(is_word(places, True), False)
            self.assertIs(is_word(places, False), False)

    def test_by_the_names(self):
        self.assertIs(is_word(places=3, value=7), True)
        self.assertIs(is_word(value=8, places=3), False)

    def test_wrong_places(self):
        for places in NO_PLACES:
            for value in [0, 1, "no word", None]:
                with self.subTest(places=places, value=value):
                    with self.assertRaises(InvalidPlaces) as caught:
                        is_word(places, value)
                    self.assertIs(caught.exception.value, places)


class TestWeight(unittest.TestCase):
    def test_each_word_of_ten_places(self):
        for word in range(2 ** 10):
            self.assertEqual(weight(word), format(word, "b").count("1"))

    def test_the_greatest_words(self):
        self.assertEqual(weight(0), 0)
        self.assertEqual(weight(ALL), 24)
        self.assertEqual(weight(ALL - 1), 23)
        self.assertEqual(weight(2 ** 23), 1)

    def test_the_weight_of_a_sum(self):
        for word, other in itertools.product(list(range(32)) + SOME_WORDS, repeat=2):
            both = weight(word) + weight(other)
            self.assertEqual(both, weight(word ^ other) + 2 * weight(word & other))
            self.assertEqual(weight(word), weight(word & other) + weight(word & ~other))

    def test_by_the_name(self):
        self.assertEqual(weight(word=13), 3)

    def test_wrong_words(self):
        for word in NO_WORDS:
            with self.subTest(word=word):
                with self.assertRaises(InvalidWord) as caught:
                    weight(word)
                self.assertIs(caught.exception.value, word)


class TestAreEven(unittest.TestCase):
    def test_by_the_meeting(self):
        for word, other in itertools.product(list(range(32)) + SOME_WORDS, repeat=2):
            meeting = [place for place in plain_places(word) if place in plain_places(other)]
            self.assertIs(are_even(word, other), len(meeting) % 2 == 0)
            self.assertIs(are_even(other, word), are_even(word, other))

    def test_a_word_meets_itself_in_its_own_places(self):
        for word in list(range(64)) + SOME_WORDS:
            self.assertIs(are_even(word, word), weight(word) % 2 == 0)

    def test_even_to_a_sum_if_even_to_both_or_to_none(self):
        for word, first, second in itertools.product(range(16), repeat=3):
            alike = are_even(word, first) == are_even(word, second)
            self.assertIs(are_even(word, first ^ second), alike)

    def test_by_the_names(self):
        self.assertIs(are_even(word=12, other=5), False)
        self.assertIs(are_even(other=5, word=3), False)
        self.assertIs(are_even(other=6, word=9), True)

    def test_wrong_words(self):
        for wrong in NO_WORDS:
            with self.subTest(wrong=wrong):
                with self.assertRaises(InvalidWord) as caught:
                    are_even(wrong, 3)
                self.assertIs(caught.exception.value, wrong)
                with self.assertRaises(InvalidWord) as caught:
                    are_even(3, wrong)
                self.assertIs(caught.exception.value, wrong)

    def test_the_first_wrong_word_decides(self):
        for word, other in [(-1, "x"), ("x", -1), (True, False), (False, True), (None, 2 ** 24)]:
            with self.assertRaises(InvalidWord) as caught:
                are_even(word, other)
            self.assertIs(caught.exception.value, word)
            with self.assertRaises(InvalidWord) as caught:
                are_even(other=other, word=word)
            self.assertIs(caught.exception.value, word)


class TestPlacesOf(unittest.TestCase):
    def test_the_rising_list_of_the_places(self):
        for word in list(range(2 ** 10)) + SOME_WORDS:
            told = places_of(word)
            self.assertIsInstance(told, list)
            self.assertEqual(told, plain_places(word))
            self.assertEqual(told, sorted(told))

    def test_the_edges(self):
        self.assertEqual(places_of(0), [])
        self.assertEqual(places_of(2 ** 23), [23])
        self.assertEqual(places_of(ALL), list(range(24)))

    def test_a_new_list_each_time(self):
        told = places_of(13)
        told.append(7)
        self.assertEqual(places_of(13), [0, 2, 3])

    def test_by_the_name(self):
        self.assertEqual(places_of(word=6), [1, 2])

    def test_wrong_words(self):
        for word in NO_WORDS:
            with self.subTest(word=word):
                with self.assertRaises(InvalidWord) as caught:
                    places_of(word)
                self.assertIs(caught.exception.value, word)


class TestWordOf(unittest.TestCase):
    def test_there_and_back(self):
        for word in list(range(2 ** 10)) + SOME_WORDS:
            self.assertEqual(word_of(places_of(word)), word)
            self.assertEqual(word_of(tuple(places_of(word))), word)

    def test_spots_in_any_sequence(self):
        for spots in itertools.permutations([0, 2, 5, 23]):
            wanted = 1 + 4 + 32 + 2 ** 23
            self.assertEqual(word_of(spots), wanted)
            self.assertEqual(word_of(list(spots)), wanted)
            self.assertEqual(places_of(word_of(spots)), [0, 2, 5, 23])

    def test_the_edges(self):
        for spots, word in [([], 0), ((), 0), ([0], 1), ([23], 2 ** 23), (list(range(24)), ALL)]:
            told = word_of(spots)
            self.assertEqual(told, word)
            self.assertIs(type(told), int)

    def test_by_the_name(self):
        self.assertEqual(word_of(spots=[1, 2]), 6)

    def test_the_list_is_not_changed(self):
        spots = [5, 0, 3]
        word_of(spots)
        self.assertEqual(spots, [5, 0, 3])

    def test_wrong_spots(self):
        lists = [[0, 0], [3, 1, 3], [24], [0, 24], [999999], [10 ** 29], [-1], [2, -1], list(range(25)), [7] * 200]
        lists = lists + [[wrong] for wrong in NO_COUNTS] + [[1, wrong, 2] for wrong in NO_COUNTS]
        for spots in lists:
            for passed in [spots, tuple(spots)]:
                with self.subTest(spots=passed):
                    with self.assertRaises(InvalidSpots) as caught:
                        word_of(passed)
                    self.assertEqual(caught.exception.value, passed)
                    self.assertIs(type(caught.exception.value), type(passed))

    def test_truths_are_no_spots(self):
        for spots in [[True], [False], [True, False], [0, True], (False, 1), [1, True], [False, 0]]:
            with self.assertRaises(InvalidSpots):
                word_of(spots)

    def test_no_list_of_spots(self):
        for spots in NO_NUMBERS + [0, 1, 3, -1, {0: 1, 2: 3}, "01", range(2)]:
            with self.subTest(spots=spots):
                with self.assertRaises(InvalidSpots) as caught:
                    word_of(spots)
                self.assertIs(caught.exception.value, spots)


if __name__ == "__main__":
    unittest.main()
