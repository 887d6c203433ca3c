"""Neighbours of own rooms."""

import random
import unittest

from owncontraries.contraries import is_own
from owncontraries.errors import InvalidRoom, InvalidWord, NotOwn, OddWeight, TooMany, UnlikePlaces, WordWithin
from owncontraries.neighbours import are_neighbours, neighbour, neighbours
from owncontraries.rooms import Room
from tests.checks import Checks
from tests.drawn import EIGHT_WORDS, GOLAY_WORDS, all_rooms, all_sums, drawn_own_rooms, drawn_rooms, even_one
from tests.drawn import lot_words, odd, own_rooms, own_rooms_of, pair_words, still_rooms, units
from tests.values import NO_ROOMS, NO_WORDS


def words_of(room):
    return set(all_sums(room.basis()))


def plain_neighbour(room, word):
    """The words of the neighbour, gone through one by one."""
    half = [one for one in all_sums(room.basis()) if not odd(one, word)]
    return sorted(half + [one ^ word for one in half])


def some_own_rooms():
    """Own rooms of 2 to 24 places, drawn and told ones."""
    yield from own_rooms()
    yield from drawn_own_rooms(42, list(range(2, 25, 2)) * 2)


def not_own_rooms():
    """Rooms that are not own, of up to 24 places."""
    for places in [1, 2, 3]:
        yield from [room for room in all_rooms(places) if not is_own(room)]
    yield from [room for room in still_rooms(43, [4, 5, 6, 8]) if not is_own(room)]
    yield from [room for room in drawn_rooms(44, [4, 6, 8, 16, 24]) if not is_own(room)]
    yield Room(24, GOLAY_WORDS[1:])
    yield Room(24, units(24))
    # half of the places, but not still
    yield Room(4, [3, 5])
    yield Room(16, units(8))


class TestExamples(unittest.TestCase):
    def test_the_examples_of_the_interface(self):
        pairs, cross, nest = Room(4, [3, 12]), Room(4, [5, 10]), Room(4, [6, 9])
        told = [neighbour(pairs, 5) == cross, neighbour(pairs, 10) == cross, neighbours(pairs) == [nest, cross]]
        told.append(are_neighbours(nest, cross))
        self.assertEqual(repr(told), "[True, True, True, True]")

    def test_the_example_of_the_document(self):
        eight = Room(8, EIGHT_WORDS)
        other = neighbour(eight, 23)
        self.assertEqual({bin(word).count("1") % 4 for word in words_of(other)}, {0})
        self.assertEqual(len(words_of(eight) & words_of(other)), 8)
        first = Room(4, [3, 12])
        self.assertEqual([words_of(one) for one in neighbours(first)], [{0, 6, 9, 15}, {0, 5, 10, 15}])


class TestNeighbour(Checks):
    def test_against_words_gone_through(self):
        for places, step in [(2, 1), (4, 1), (6, 1), (8, 27)]:
            for room in own_rooms_of(places)[::step]:
                own = words_of(room)
                for word in range(2 ** places):
                    if odd(word, word):
                        self.check_error(OddWeight, {}, neighbour, room=room, word=word)
                    elif word in own:
                        self.check_error(WordWithin, {}, neighbour, room=room, word=word)
                    else:
                        told = self.asked(neighbour, room=room, word=word)
                        self.assertIsInstance(told, Room)
                        self.assertEqual(told.places, places)
                        self.assertEqual(all_sums(told.basis()), plain_neighbour(room, word))

    def test_rooms_of_more_places(self):
        chance = random.Random(45)
        for room in some_own_rooms():
            for _ in range(3):
                word = even_one(chance.randrange(2 ** room.places))
                if room.has(word):
                    continue
                told = self.asked(neighbour, room=room, word=word)
                self.assertEqual(all_sums(told.basis()), plain_neighbour(room, word))
                self.assertEqual([is_own(told), told.has(word), told == room], [True, True, False])

    def test_half_of_the_words_in_common_and_back_again(self):
        for places, step in [(4, 1), (6, 1), (8, 45)]:
            for room in own_rooms_of(places)[::step]:
                own = words_of(room)
                for word in range(2 ** places):
                    if odd(word, word) or word in own:
                        continue
                    told = neighbour(room, word)
                    others = words_of(told)
                    self.assertIs(is_own(told), True)
                    self.assertIn(word, others)
                    self.assertEqual(2 * len(own & others), len(own))
                    for back in list(own - others)[:3]:
                        self.assertEqual(neighbour(told, back), room)
                    for again in list(others - own)[:3]:
                        self.assertEqual(neighbour(room, again), told)

    def test_by_each_word_that_it_has_more_the_same_one(self):
        room = Room(8, EIGHT_WORDS)
        told = neighbour(room, 23)
        for word in words_of(told) - words_of(room):
            self.assertEqual(neighbour(room, word), told)
        for word in words_of(room) - words_of(told):
            self.assertEqual(neighbour(told, word), room)

    def test_wrong_values(self):
        wrong = {"room": (InvalidRoom, NO_ROOMS), "word": (InvalidWord, NO_WORDS + [16, 17, 255, 2 ** 24 - 1])}
        self.check_wrong(neighbour, {"room": Room(4, [3, 12]), "word": 5}, wrong)
        self.check_wrong(neighbour, {"room": Room(4, [3]), "word": 7}, wrong)
        wrong = {"room": (InvalidRoom, NO_ROOMS), "word": (InvalidWord, NO_WORDS)}
        self.check_wrong(neighbour, {"room": Room(24, GOLAY_WORDS), "word": 3}, wrong)

    def test_just_below_2_to_the_places(self):
        for room in some_own_rooms():
            self.check_error(InvalidWord, {"value": 2 ** room.places}, neighbour, room=room, word=2 ** room.places)
            self.check_error(WordWithin, {}, neighbour, room=room, word=2 ** room.places - 1)
            self.check_error(WordWithin, {}, neighbour, room=room, word=0)
            self.check_error(OddWeight, {}, neighbour, room=room, word=2 ** (room.places - 1))

    def test_rooms_that_are_not_own(self):
        for room in not_own_rooms():
            for word in {0, 1, 2 ** room.places - 1, 2 ** (room.places - 1), 3 % 2 ** room.places}:
                self.check_error(NotOwn, {}, neighbour, room=room, word=word)
            self.check_error(InvalidWord, {"value": 2 ** room.places}, neighbour, room=room, word=2 ** room.places)

    def test_two_places_have_none(self):
        room = Room(2, [3])
        for word, error in [(0, WordWithin), (1, OddWeight), (2, OddWeight), (3, WordWithin)]:
            self.check_error(error, {}, neighbour, room=room, word=word)


class TestAreNeighbours(Checks):
    def test_against_words_in_common(self):
        for places, step in [(2, 1), (4, 1), (6, 1), (8, 9)]:
            rooms = own_rooms_of(places)[::step]
            for room in rooms:
                for other in rooms:
                    wanted = 2 * len(words_of(room) & words_of(other)) == 2 ** (places // 2)
                    self.assertIs(self.truth(are_neighbours, room=room, other=other), wanted)

    def test_more_places(self):
        chance = random.Random(46)
        for room in some_own_rooms():
            self.assertIs(self.truth(are_neighbours, room=room, other=room), False)
            for _ in range(2):
                word = even_one(chance.randrange(2 ** room.places))
                if not room.has(word):
                    other = neighbour(room, word)
                    self.assertIs(self.truth(are_neighbours, room=room, other=other), True)
                    self.assertIs(self.truth(are_neighbours, room=other, other=room), True)
            for other in [Room(room.places, pair_words(room.places)), next(drawn_own_rooms(3, [room.places]))]:
                common = len(words_of(room) & words_of(other))
                self.assertIs(are_neighbours(room, other), 2 * common == 2 ** (room.places // 2))

    def test_wrong_values(self):
        for room in [Room(4, [3, 12]), Room(4, [3])]:
            wrong = {"room": (InvalidRoom, NO_ROOMS), "other": (InvalidRoom, NO_ROOMS)}
            self.check_wrong(are_neighbours, {"room": room, "other": Room(2, [3])}, wrong)

    def test_unlike_places_then_not_own(self):
        own, more = Room(4, [3, 12]), Room(8, EIGHT_WORDS)
        none, odd_room = Room(4, []), Room(3, [3])
        for room, other in [(own, more), (own, odd_room), (none, more), (none, odd_room), (Room(1, []), Room(2, [1]))]:
            self.check_error(UnlikePlaces, {}, are_neighbours, room=room, other=other)
            self.check_error(UnlikePlaces, {}, are_neighbours, room=other, other=room)
        for bad in [none, Room(4, [3]), Room(4, [3, 5]), Room(4, units(4))]:
            self.check_error(NotOwn, {}, are_neighbours, room=own, other=bad)
            self.check_error(NotOwn, {}, are_neighbours, room=bad, other=own)
            self.check_error(NotOwn, {}, are_neighbours, room=bad, other=bad)


class TestNeighbours(Checks):
    def test_against_all_own_rooms(self):
        for places, step in [(2, 1), (4, 1), (6, 1), (8, 15)]:
            rooms = own_rooms_of(places)
            for room in rooms[::step]:
                told = self.asked(neighbours, room=room)
                self.assertIs(type(told), list)
                own = words_of(room)
                wanted = [other for other in rooms if 2 * len(own & words_of(other)) == len(own)]
                self.assertEqual(told, sorted(wanted, key=lambda one: one.basis()))

    def test_how_many(self):
        many = {2: 0, 4: 2, 6: 6, 8: 14, 10: 30, 12: 62, 14: 126}
        rooms = [room for room in some_own_rooms() if room.places <= 14]
        self.assertEqual({room.places for room in rooms}, set(many))
        for room in rooms:
            told = self.asked(neighbours, room=room)
            bases = [one.basis() for one in told]
            self.assertEqual(len(told), many[room.places])
            self.assertEqual(bases, sorted(bases))
            self.assertEqual(len({tuple(basis) for basis in bases}), len(bases))
            own = words_of(room)
            for one in told:
                self.assertEqual([one.places, is_own(one)], [room.places, True])
                self.assertEqual(2 * len(own & words_of(one)), len(own))

    def test_the_neighbours_by_all_words(self):
        for room in [Room(6, pair_words(6)), Room(8, EIGHT_WORDS), Room(8, lot_words(8)), Room(8, pair_words(8))]:
            found = set()
            for word in range(2 ** room.places):
                if not odd(word, word) and not room.has(word):
                    found.add(tuple(neighbour(room, word).basis()))
            self.assertEqual([tuple(one.basis()) for one in neighbours(room)], sorted(found))

    def test_more_than_14_places(self):
        for room in some_own_rooms():
            if room.places > 14:
                self.check_error(TooMany, {"what": "places", "limit": 14}, neighbours, room=room)
        for places in [15, 16, 17, 18, 24]:
            for room in [Room(places, []), Room(places, units(places)), Room(places, [2 ** places - 1])]:
                self.check_error(NotOwn, {}, neighbours, room=room)

    def test_wrong_rooms(self):
        self.check_wrong(neighbours, {"room": Room(2, [3])}, {"room": (InvalidRoom, NO_ROOMS)})
        for room in not_own_rooms():
            self.check_error(NotOwn, {}, neighbours, room=room)


class TestCopies(Checks):
    def test_told_lists_are_new(self):
        for room in [Room(4, [3, 12]), Room(8, EIGHT_WORDS)]:
            self.check_new(neighbours, room)
        self.assertEqual(neighbours(Room(2, [3])), [])

    def test_the_room_is_as_before(self):
        room = Room(4, [3, 12])
        neighbour(room, 5).basis().append(1)
        neighbours(room)[0].basis().append(1)
        are_neighbours(room, room)
        self.assertEqual(room, Room(4, [3, 12]))
        self.assertEqual(neighbour(room, 5), Room(4, [5, 10]))


if __name__ == "__main__":
    unittest.main()
