"""Pairs of still rooms, and kinds of their lots of fours."""

import random
import unittest

from owncontraries.contraries import is_own, is_still
from owncontraries.errors import InvalidRoom, NotStill
from owncontraries.kinds import fours_kinds, pairs
from owncontraries.mixes import beside, exchanged
from owncontraries.rooms import Room
from tests.checks import Checks
from tests.drawn import EIGHT_WORDS, GOLAY_WORDS, all_rooms, all_sums, drawn_fours_rooms, drawn_own_rooms, even_words
from tests.drawn import few_rooms, lot_words, ons, own_rooms, own_rooms_of, pair_words, still_rooms, units
from tests.values import NO_ROOMS

SEVEN_WORDS = [15, 51, 85]


def d_lot(places):
    """The room of a lot of the kind d, without words of other weights than its fours make."""
    return Room(places, [15 << place for place in range(0, places - 3, 2)])


LOTS = {"e7": Room(7, SEVEN_WORDS), "e8": Room(8, EIGHT_WORDS)}
for size in [4, 6, 8, 10, 12, 14, 16, 24]:
    LOTS["d" + str(size)] = d_lot(size)


def places_on(word):
    return [place for place in range(24) if word & 2 ** place]


def plain_pairs(room):
    return [word for word in all_sums(room.basis()) if ons(word) == 2]


def plain_kinds(room):
    """The lots of fours, each put together from words of weight 4 that meet, the kind told by how many words it has."""
    taken = sum(plain_pairs(room))
    words = [word for word in all_sums(room.basis()) if ons(word) == 4 and word & taken == 0]
    lots = []
    for word in words:
        met = [lot for lot in lots if any(word & other for other in lot)]
        lots = [lot for lot in lots if lot not in met] + [[word] + [other for lot in met for other in lot]]
    told = []
    for lot in lots:
        on = 0
        for word in lot:
            on = on | word
        spots, half = places_on(on), ons(on) // 2
        kinds = {(7, 7): "e7", (8, 14): "e8", (2 * half, half * (half - 1) // 2): "d" + str(len(spots))}
        told.append((kinds[(len(spots), len(lot))], spots))
    return sorted(told)


def few_still_rooms():
    """All still rooms of up to five places, drawn ones to ten, by fours, and own ones of up to eight."""
    for places in [1, 2, 3, 4, 5]:
        yield from [room for room in all_rooms(places) if is_still(room)]
    yield from still_rooms(111, [6, 7, 8, 9, 10, 10])
    yield from still_rooms(112, [6, 7, 8, 8, 8, 9, 9, 10, 10], 4)
    for places, step in [(6, 2), (8, 5)]:
        yield from own_rooms_of(places)[::step]


def larger_rooms():
    """Still rooms of up to 24 places."""
    yield from own_rooms()
    yield from drawn_own_rooms(113, list(range(8, 25, 2)) * 2)
    yield from drawn_fours_rooms(114, [16, 24])
    for room in drawn_fours_rooms(115, [16, 16, 24]):
        yield Room(room.places, room.basis()[2:])
    yield Room(23, [15, 60, 240, 7 << 20 | 1 << 10])


def put(rooms, chance):
    """The rooms beside one another, places exchanged, and the places of each one."""
    made = rooms[0]
    for room in rooms[1:]:
        made = beside(made, room)
    sequence = chance.sample(range(made.places), made.places)
    spots, start = [], 0
    for room in rooms:
        spots.append(sorted(sequence[start:start + room.places]))
        start += room.places
    return exchanged(made, sequence), spots


class TestExamples(unittest.TestCase):
    def test_the_examples_of_the_interface(self):
        two, eight = Room(4, [3, 12]), Room(8, [240, 204, 170, 255])
        twelve = Room(12, [15, 60, 240, 960, 3840, 1365])
        told = [pairs(two), fours_kinds(two), fours_kinds(eight), fours_kinds(twelve), pairs(twelve)]
        wanted = "[[3, 12], [], [('e8', [0, 1, 2, 3, 4, 5, 6, 7])],"
        wanted += " [('d12', [0, 1, 2, 3, 4, 5, 6, 7, 8, 9, 10, 11])], []]"
        self.assertEqual(repr(told), wanted)


class TestPairs(Checks):
    def test_against_words_gone_through(self):
        for room in list(few_still_rooms()) + list(larger_rooms()):
            told = self.asked(pairs, room=room)
            self.assertIs(type(told), list)
            self.assertEqual(told, plain_pairs(room))

    def test_told_pairs(self):
        for places in range(2, 25):
            self.assertEqual(pairs(Room(places, pair_words(places))), pair_words(places))
        self.assertEqual(pairs(Room(4, [6, 15])), [6, 9])
        self.assertEqual(pairs(Room(24, [3 << 22, 1 | 1 << 21])), [2 ** 21 + 1, 3 * 2 ** 22])


class TestFoursKinds(Checks):
    def check_kinds(self, room, wanted):
        told = self.asked(fours_kinds, room=room)
        self.assertIs(type(told), list)
        self.assertEqual(told, wanted)
        for one in told:
            self.assertEqual([type(one), type(one[0]), type(one[1])], [tuple, str, list])

    def test_against_words_gone_through(self):
        for room in list(few_still_rooms()) + list(larger_rooms()):
            self.check_kinds(room, plain_kinds(room))

    def test_each_lot_alone(self):
        for kind, room in LOTS.items():
            self.check_kinds(room, [(kind, list(range(room.places)))])

    def test_lots_beside_one_another(self):
        chance = random.Random(116)
        others = [Room(2, [3]), Room(1, []), Room(6, [63]), Room(3, [])]
        found = set()
        for _ in range(80):
            named = [chance.choice(list(LOTS.items()))]
            while True:
                one = chance.choice(list(LOTS.items()) + [(None, room) for room in others] * 2)
                if one[1].places + sum(room.places for kind, room in named) > 24:
                    break
                named.append(one)
            chance.shuffle(named)
            made, spots = put([room for kind, room in named], chance)
            wanted = sorted((kind, part) for (kind, room), part in zip(named, spots) if kind)
            found |= {kind for kind, part in wanted}
            self.check_kinds(made, wanted)
            two = [part for (kind, room), part in zip(named, spots) if room == others[0]]
            self.assertEqual(pairs(made), sorted(2 ** first + 2 ** second for first, second in two))
        self.assertEqual(found, set(LOTS))

    def test_own_rooms(self):
        for places in [12, 16, 20, 24]:
            self.check_kinds(Room(places, lot_words(places)), [("d" + str(places), list(range(places)))])
        twice = [15, 51, 85, 15 << 7, 51 << 7, 85 << 7, 2 ** 14 - 1]
        self.check_kinds(Room(14, twice), [("e7", list(range(7))), ("e7", list(range(7, 14)))])
        self.check_kinds(Room(24, GOLAY_WORDS), [])
        self.check_kinds(Room(8, EIGHT_WORDS), [("e8", list(range(8)))])
        self.check_kinds(Room(8, lot_words(8)), [("e8", list(range(8)))])
        both = Room(16, EIGHT_WORDS + [word << 8 for word in EIGHT_WORDS])
        self.check_kinds(both, [("e8", list(range(8))), ("e8", list(range(8, 16)))])

    def test_eight_places(self):
        # dimension 3 is d8, 4 is e8
        self.check_kinds(Room(8, [15, 60, 240]), [("d8", list(range(8)))])
        self.check_kinds(Room(8, [15, 60, 240, 85]), [("e8", list(range(8)))])
        self.check_kinds(Room(8, [15, 240]), [("d4", [0, 1, 2, 3]), ("d4", [4, 5, 6, 7])])

    def test_as_python_sorts(self):
        made = Room(24, [15, 60, 240, 960] + [word << 10 for word in [15, 60]] + [word << 16 for word in EIGHT_WORDS])
        wanted = [("d10", list(range(10))), ("d6", list(range(10, 16))), ("e8", list(range(16, 24)))]
        self.check_kinds(made, wanted)
        self.check_kinds(Room(12, [15 << 8, 15, 15 << 4]), [("d4", list(range(at, at + 4))) for at in [0, 4, 8]])

    def test_pairs_are_parted_off(self):
        # 15 is a sum of two pairs, 60 of a pair and one that is none
        self.check_kinds(Room(4, [3, 12]), [])
        self.check_kinds(Room(8, [3, 12, 240]), [("d4", [4, 5, 6, 7])])
        for places in range(2, 25):
            self.check_kinds(Room(places, pair_words(places)), [])

    def test_more_words_than_a_room_may_be_made_of(self):
        made = d_lot(24)
        self.assertEqual(len([word for word in all_sums(made.basis()) if ons(word) == 4]), 66)
        self.check_kinds(made, [("d24", list(range(24)))])

    def test_rooms_without_fours(self):
        for places in range(1, 25):
            self.check_kinds(Room(places, []), [])
            if places % 2 == 0 and places != 4:
                self.check_kinds(Room(places, [2 ** places - 1]), [])
        self.check_kinds(Room(4, [15]), [("d4", [0, 1, 2, 3])])
        self.check_kinds(Room(9, [63]), [])

    def test_still_rooms_that_are_not_own(self):
        rooms = [room for room in list(few_still_rooms()) + list(LOTS.values()) if not is_own(room)]
        self.assertGreater(len([room for room in rooms if fours_kinds(room)]), 20)


class TestWrong(Checks):
    def test_wrong_rooms(self):
        for function in [pairs, fours_kinds]:
            self.check_wrong(function, {"room": Room(2, [3])}, {"room": (InvalidRoom, NO_ROOMS)})

    def test_rooms_that_are_not_still(self):
        rooms = [room for room in few_rooms() if not is_still(room)]
        for places in range(3, 25):
            rooms += [Room(places, units(places)), Room(places, even_words(places)), Room(places, [3, 6])]
        for room in rooms:
            self.check_error(NotStill, {}, pairs, room=room)
            self.check_error(NotStill, {}, fours_kinds, room=room)


class TestCopies(Checks):
    def test_told_lists_are_new(self):
        for room in [Room(4, [3, 12]), Room(8, pair_words(8))]:
            self.check_new(pairs, room)
        for room in [Room(8, EIGHT_WORDS), Room(8, [15, 240])]:
            self.check_new(fours_kinds, room)
            told = fours_kinds(room)
            told[0][1].append(1)
            self.assertNotEqual(fours_kinds(room), told)
            self.assertEqual(room, Room(8, room.basis()))


if __name__ == "__main__":
    unittest.main()
