"""Contraries, still and own rooms, and papers that a room is not own."""

import random
import unittest

from owncontraries.contraries import contrary, is_own, is_still, is_why_not_own, why_not_own
from owncontraries.errors import InvalidRoom
from owncontraries.mixes import common_room, lies_in, sum_room
from owncontraries.rooms import Room
from tests.checks import Checks
from tests.drawn import EIGHT_WORDS, GOLAY_WORDS, all_rooms, all_sums, even_words, few_rooms, large_rooms, odd
from tests.drawn import own_rooms, own_word_sets, pair_words, room_pairs, still_rooms, units
from tests.values import AT_LEAST_ZERO, BELOW_ZERO, NO_INTEGERS, NO_ROOMS, NO_WORDS, Plain

STILL_NOT_OWN = [Room(4, [3]), Room(4, []), Room(1, []), Room(3, [3]), Room(8, [15]), Room(24, GOLAY_WORDS[1:])]


def even_to_all(places, words):
    """All words of so many places that are even to each of the words."""
    return [word for word in range(2 ** places) if not any(odd(word, other) for other in words)]


def meet_oddly_somewhere(words):
    return any(odd(word, other) for word in words for other in words)


class TestExamples(unittest.TestCase):
    def test_the_examples_of_the_interface(self):
        pair, three = Room(4, [3]), Room(3, [7])
        told = [contrary(pair), contrary(contrary(pair)) == pair, is_still(pair), is_own(pair), is_still(three)]
        told.append(is_own(Room(4, [12, 3])))
        self.assertEqual(repr(told), "[Room(4, [8, 4, 3]), True, True, False, False, True]")
        told = [is_why_not_own(three, ("odd", 7, 7)), is_why_not_own(pair, ("lacks", 4))]
        told = told + [is_why_not_own(pair, ("lacks", 3)), is_why_not_own(pair, why_not_own(pair))]
        told.append(why_not_own(Room(2, [3])))
        self.assertEqual(repr(told), "[True, True, False, True, None]")


class TestContrary(Checks):
    def test_against_words_gone_through(self):
        for room in few_rooms():
            told = self.asked(contrary, room=room)
            self.assertIsInstance(told, Room)
            self.assertEqual(told.places, room.places)
            wanted = even_to_all(room.places, all_sums(room.basis()))
            self.assertEqual(all_sums(told.basis()), wanted)

    def test_the_contrarys_contrary(self):
        for room in list(few_rooms()) + list(large_rooms()):
            self.assertEqual(contrary(contrary(room)), room)

    def test_dimensions_together(self):
        for room in list(few_rooms()) + list(large_rooms()):
            self.assertEqual(room.dimension + contrary(room).dimension, room.places)

    def test_large_ones_are_even_to_all_words(self):
        for room in large_rooms():
            for word in contrary(room).basis():
                self.assertFalse(any(odd(word, other) for other in room.basis()))

    def test_sums_and_common_rooms(self):
        rooms = list(large_rooms())
        large = [(room, other) for room in rooms for other in rooms[::7] if room.places == other.places]
        for room, other in list(room_pairs()) + large:
            self.assertEqual(contrary(sum_room(room, other)), common_room(contrary(room), contrary(other)))
            self.assertEqual(contrary(common_room(room, other)), sum_room(contrary(room), contrary(other)))
            self.assertIs(lies_in(contrary(other), contrary(room)), lies_in(room, other))

    def test_no_words_and_all_words(self):
        for places in range(1, 25):
            none, full = Room(places, []), Room(places, units(places))
            self.assertEqual([contrary(none), contrary(full)], [full, none])
            everywhere = Room(places, [2 ** places - 1])
            self.assertEqual(contrary(everywhere), Room(places, even_words(places)))

    def test_own_rooms_are_their_contraries(self):
        for room in own_rooms():
            self.assertEqual(contrary(room), room)


class TestStillAndOwn(Checks):
    def test_against_words_gone_through(self):
        for room in few_rooms():
            words = all_sums(room.basis())
            still = not meet_oddly_somewhere(words)
            self.assertIs(self.truth(is_still, room=room), still)
            own = even_to_all(room.places, words) == words
            self.assertIs(self.truth(is_own, room=room), own)

    def test_by_the_contrary(self):
        for room in list(few_rooms()) + list(large_rooms()) + list(still_rooms(5, [5, 6, 7, 8, 9, 10])):
            self.assertIs(is_still(room), lies_in(room, contrary(room)))
            self.assertIs(is_own(room), room == contrary(room))

    def test_all_own_rooms_of_a_few_places(self):
        for places, many in [(1, 0), (2, 1), (3, 0), (4, 3), (5, 0)]:
            self.assertEqual(len([room for room in all_rooms(places) if is_own(room)]), many)
        for places in [2, 4, 6]:
            for words in own_word_sets(places):
                self.assertIs(is_own(Room(places, sorted(words))), True)

    def test_one_word_more_or_less(self):
        chance = random.Random(7)
        for room in own_rooms():
            self.assertEqual([self.truth(is_still, room=room), self.truth(is_own, room=room)], [True, True])
            basis = room.basis()
            for left in basis:
                less = Room(room.places, [word for word in basis if word != left])
                self.assertEqual([is_still(less), is_own(less)], [True, False])
            for _ in range(10):
                word = chance.randrange(2 ** room.places)
                more = Room(room.places, basis + [word])
                self.assertEqual([is_still(more), is_own(more)], [room.has(word)] * 2)

    def test_a_word_that_meets_itself_alone_oddly(self):
        for places in range(1, 25):
            odd_word = 2 ** (places - 1)
            self.assertIs(is_still(Room(places, [odd_word])), False)
            # this word is even to the pairs on other places
            room = Room(places, pair_words(places - 1) + [odd_word])
            self.assertEqual([is_still(room), is_own(room)], [False, False])

    def test_even_weights_that_meet_oddly(self):
        for places in range(3, 25):
            self.assertEqual([is_still(Room(places, [3, 5])), is_own(Room(places, [3, 5]))], [False, False])
        # half of the places, and even weights alone, but not still
        self.assertIs(is_own(Room(4, [3, 5])), False)
        self.assertIs(is_own(Room(6, [3, 6, 63])), False)

    def test_no_words_and_all_words(self):
        for places in range(1, 25):
            none, full = Room(places, []), Room(places, units(places))
            self.assertEqual([is_still(none), is_own(none), is_still(full), is_own(full)], [True, False, False, False])

    def test_odd_numbers_of_places(self):
        for places in range(1, 25, 2):
            room = Room(places, pair_words(places))
            self.assertEqual(room.dimension, places // 2)
            self.assertEqual([is_still(room), is_own(room)], [True, False])
        for places in [1, 3, 5]:
            self.assertEqual([room for room in all_rooms(places) if is_own(room)], [])

    def test_the_example_of_the_overview(self):
        self.assertIs(is_own(Room(8, EIGHT_WORDS)), True)
        self.assertEqual([is_still(Room(4, [7])), is_own(Room(4, [7]))], [False, False])


class TestWhyNotOwn(Checks):
    def check_paper(self, room):
        paper = self.asked(why_not_own, room=room)
        self.assertIs(type(paper), tuple)
        self.assertIs(is_why_not_own(room, paper), True)
        words = [word for word in paper[1:] if type(word) is int and 0 <= word < 2 ** room.places]
        if paper[0] == "odd":
            self.assertEqual(len(paper), 3)
            self.assertEqual([room.has(word) for word in words], [True, True])
            self.assertTrue(odd(paper[1], paper[2]))
        else:
            self.assertEqual((paper[0], len(paper)), ("lacks", 2))
            self.assertEqual([room.has(word) for word in words], [False])
            self.assertFalse(any(odd(paper[1], word) for word in room.basis()))
        return paper[0]

    def test_own_rooms_have_none(self):
        for room in own_rooms():
            self.assertIsNone(self.asked(why_not_own, room=room))
        for words in own_word_sets(6):
            self.assertIsNone(why_not_own(Room(6, sorted(words))))

    def test_none_exactly_for_own_rooms(self):
        for room in list(few_rooms()) + list(large_rooms()) + list(still_rooms(6, [5, 6, 7, 8, 9, 10])):
            if is_own(room):
                self.assertIsNone(why_not_own(room))
            else:
                self.check_paper(room)

    def test_still_rooms_that_are_not_own_lack_a_word(self):
        for room in STILL_NOT_OWN:
            self.assertEqual(self.check_paper(room), "lacks")

    def test_rooms_that_hold_their_contrary_meet_oddly(self):
        for room in [Room(1, [1]), Room(2, [1, 2]), Room(4, [3, 12, 5]), Room(24, even_words(24)), Room(24, units(24))]:
            self.assertEqual(self.check_paper(room), "odd")

    def test_words_that_meet_themselves_oddly(self):
        for room in [Room(3, [7]), Room(4, [7]), Room(1, [1]), Room(5, [1, 30]), Room(5, [6, 24, 1])]:
            self.check_paper(room)

    def test_half_of_the_places_but_not_still(self):
        few = [Room(2, [1]), Room(2, [2]), Room(4, [3, 5]), Room(4, [1, 2])]
        for room in few + [Room(6, [3, 6, 63]), Room(8, units(4))]:
            self.check_paper(room)

    def test_wrong_rooms(self):
        for function in [contrary, is_still, is_own, why_not_own]:
            self.check_wrong(function, {"room": Room(2, [3])}, {"room": (InvalidRoom, NO_ROOMS)})


class TestIsWhyNotOwn(Checks):
    def check_lets(self, room, value, wanted):
        with self.subTest(room=room, value=repr(value)):
            self.assertIs(self.truth(is_why_not_own, room=room, value=value), wanted)

    def test_all_papers_of_rooms_of_a_few_places(self):
        for places in [1, 2, 3]:
            for room in all_rooms(places):
                words = all_sums(room.basis())
                evens = even_to_all(places, words)
                for word in range(-1, 2 ** places + 1):
                    self.check_lets(room, ("lacks", word), word in evens and word not in words)
                    for other in range(-1, 2 ** places + 1):
                        wanted = word in words and other in words and odd(word, other)
                        self.check_lets(room, ("odd", word, other), wanted)

    def test_some_papers_of_rooms_of_more_places(self):
        chance = random.Random(9)
        for room in list(few_rooms())[::7] + list(large_rooms())[::5]:
            words, evens = room.basis(), contrary(room)
            for _ in range(5):
                word, other = chance.choice(words + [0]), chance.choice(words + [0])
                self.check_lets(room, ("odd", word, other), odd(word, other))
                for one in [chance.randrange(2 ** room.places), chance.choice(evens.basis() + [0])]:
                    wanted = not room.has(one) and not any(odd(one, base) for base in words)
                    self.check_lets(room, ("lacks", one), wanted)
                    wanted = room.has(one) and odd(one, word)
                    self.check_lets(room, ("odd", word, one), wanted)
                    self.check_lets(room, ("odd", one, word), wanted)

    def test_no_paper_for_an_own_room(self):
        for room in own_rooms():
            words = room.basis()
            some = [0, 1, 2 ** room.places - 1, words[0], words[-1], words[0] ^ 1]
            for word in some:
                self.check_lets(room, ("lacks", word), False)
                for other in some:
                    self.check_lets(room, ("odd", word, other), False)
        for words in own_word_sets(4):
            for word in range(16):
                self.check_lets(Room(4, sorted(words)), ("lacks", word), False)
                for other in range(16):
                    self.check_lets(Room(4, sorted(words)), ("odd", word, other), False)

    def test_another_word_in_front(self):
        three, pair = Room(3, [7]), Room(4, [3])
        self.check_lets(three, ("odd", 7, 7), True)
        self.check_lets(pair, ("lacks", 4), True)
        for front in ["even", "Odd", "odd ", "", "still", "lack", b"odd", None, True, 0, 1, [], (), ("odd",), Plain()]:
            self.check_lets(three, (front, 7, 7), False)
            self.check_lets(pair, (front, 4), False)
        self.check_lets(three, ("lacks", 7, 7), False)
        self.check_lets(pair, ("odd", 4), False)

    def test_a_word_more_or_fewer(self):
        three, pair = Room(3, [7]), Room(4, [3])
        for value in [(), ("odd",), ("odd", 7), ("odd", 7, 7, 7), ("odd", (7, 7)), ("odd", [7, 7]), (7, 7), ("lacks",)]:
            self.check_lets(three, value, False)
        for value in [("lacks",), ("lacks", 4, 4), ("lacks", (4,)), ("lacks", [4]), (4,), ("lacks", 4, None)]:
            self.check_lets(pair, value, False)

    def test_words_that_the_room_lacks_and_words_that_meet_evenly(self):
        room = Room(4, [7, 3])
        for value, wanted in [
            (("odd", 7, 7), True), (("odd", 4, 7), True), (("odd", 4, 4), True), (("odd", 7, 3), False),
            (("odd", 0, 7), False), (("odd", 1, 7), False), (("odd", 7, 1), False), (("odd", 1, 1), False),
            (("odd", 8, 8), False), (("lacks", 8), True), (("lacks", 3), False), (("lacks", 0), False),
            (("lacks", 11), True), (("lacks", 12), False), (("lacks", 1), False), (("lacks", 15), False),
        ]:
            self.check_lets(room, value, wanted)

    def test_truths_negative_numbers_and_words_beyond_the_places(self):
        one, full, none = Room(1, [1]), Room(3, units(3)), Room(3, [])
        self.check_lets(one, ("odd", 1, 1), True)
        self.check_lets(none, ("lacks", 1), True)
        for wrong in NO_WORDS + [8, 9, 15, 16, 2 ** 24 - 1]:
            for room in [one, full, none, Room(3, [7])]:
                self.check_lets(room, ("odd", wrong, wrong), False)
                self.check_lets(room, ("odd", wrong, 1), False)
                self.check_lets(room, ("odd", 1, wrong), False)
                self.check_lets(room, ("lacks", wrong), False)

    def test_lists_and_values_of_all_other_kinds(self):
        three, pair = Room(3, [7]), Room(4, [3])
        texts = ["odd", "lacks", "('odd', 7, 7)", "odd 7 7"]
        others = NO_INTEGERS + BELOW_ZERO + AT_LEAST_ZERO + texts + [three, {"odd": (7, 7)}, {0: "odd", 1: 7, 2: 7}]
        lists = [["odd", 7, 7], ["lacks", 4], [("odd", 7, 7)], (("odd", 7, 7),)]
        for value in others + lists + [{"odd", 7}, {"lacks", 4}]:
            self.check_lets(three, value, False)
            self.check_lets(pair, value, False)

    def test_wrong_rooms(self):
        for value in [("odd", 7, 7), ("lacks", 4), None]:
            self.check_wrong(is_why_not_own, {"room": Room(3, [7]), "value": value}, {"room": (InvalidRoom, NO_ROOMS)})


class TestCopies(Checks):
    def test_nothing_that_is_passed_is_changed(self):
        room = Room(4, [3])
        made = contrary(room)
        made.basis().append(1)
        room.basis().append(1)
        self.assertEqual([room, made, contrary(room)], [Room(4, [3]), Room(4, [8, 4, 3]), Room(4, [8, 4, 3])])
        self.assertEqual(why_not_own(room), why_not_own(Room(4, (3,))))


if __name__ == "__main__":
    unittest.main()
