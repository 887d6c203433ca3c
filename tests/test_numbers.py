"""How many own rooms there are, and how many of them by fours."""

import unittest

from owncontraries.errors import InvalidPlaces
from owncontraries.fills import fill_count
from owncontraries.fours import fours_count
from owncontraries.numbers import fours_number, own_number
from owncontraries.rooms import Room
from tests.checks import Checks
from tests.drawn import ons, own_word_sets
from tests.values import NO_PLACES


def product_from(first, many):
    """The product of first + 1, twice first and 1, and so on, many factors."""
    result = 1
    for step in range(many):
        result *= first * 2 ** step + 1
    return result


class TestExamples(unittest.TestCase):
    def test_the_examples_of_the_interface(self):
        told = [own_number(places) for places in [1, 2, 4, 8, 12]]
        told = [told, [fours_number(places) for places in [8, 12, 16]]]
        self.assertEqual(repr(told), "[[0, 1, 3, 135, 75735], [30, 0, 9845550]]")


class TestNumbers(Checks):
    def check_number(self, function, places, wanted):
        told = self.asked(function, places=places)
        self.assertEqual((told, type(told)), (wanted, int))

    def test_all_places(self):
        for places in range(1, 25):
            own = product_from(2, places // 2 - 1) if places % 2 == 0 else 0
            by_fours = product_from(1, places // 2 - 1) if places % 8 == 0 else 0
            self.check_number(own_number, places, own)
            self.check_number(fours_number, places, by_fours)

    def test_the_numbers_of_the_document(self):
        self.assertEqual([own_number(places) for places in [2, 4, 6, 8, 10]], [1, 3, 15, 135, 2295])
        self.assertEqual(fours_number(8), 30)

    def test_odd_numbers_of_places_have_none(self):
        for places in range(1, 25, 2):
            self.check_number(own_number, places, 0)
            self.check_number(fours_number, places, 0)

    def test_as_many_as_fill_ups_of_the_room_without_words(self):
        for places in range(1, 25):
            self.assertEqual(own_number(places), fill_count(Room(places, [])))
            self.assertEqual(fours_number(places), fours_count(Room(places, [])))

    def test_against_all_own_rooms(self):
        for places in [2, 4, 6, 8]:
            sets = own_word_sets(places)
            self.check_number(own_number, places, len(sets))
            by_fours = [words for words in sets if all(ons(word) % 4 == 0 for word in words)]
            self.check_number(fours_number, places, len(by_fours))


class TestWrong(Checks):
    def test_wrong_places(self):
        for function in [own_number, fours_number]:
            self.check_wrong(function, {"places": 8}, {"places": (InvalidPlaces, NO_PLACES)})
            for places in range(1, 25):
                function(places)


if __name__ == "__main__":
    unittest.main()
