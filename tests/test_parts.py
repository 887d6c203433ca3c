"""Parts of rooms, and part rooms."""

import random
import unittest

from owncontraries.contraries import contrary
from owncontraries.errors import InvalidRoom, InvalidSpots
from owncontraries.mixes import beside, exchanged
from owncontraries.parts import part_room, parts
from owncontraries.rooms import Room
from tests.checks import Checks
from tests.drawn import EIGHT_WORDS, GOLAY_WORDS, all_rooms, all_sums, drawn_own_rooms, drawn_rooms, few_rooms
from tests.drawn import large_rooms, lot_words, pair_words, units
from tests.values import AT_LEAST_ZERO, BELOW_ZERO, NO_NUMBERS, NO_ROOMS, Plain

# no lists of one or more unlike places of a room of four places
NO_SPOTS = NO_NUMBERS + BELOW_ZERO + AT_LEAST_ZERO + [
    [],
    (),
    [4],
    (4,),
    [0, 1, 2, 3, 4],
    [-1],
    [0, -1],
    [0, 0],
    (3, 3),
    [0, 1, 2, 0],
    [0, 1, 2, 3, 0],
    [True],
    [0, True],
    [False],
    (False, 1),
    ["0"],
    [0, "1"],
    [None],
    [0, None],
    [[0]],
    [0, [1]],
    [(0, 1)],
    [b"0"],
    [{}],
    [0, Plain()],
    [10 ** 29],
    [0, 24],
    [0, 2 ** 24],
    "0",
    "01",
    b"\x00\x01",
    range(2),
    {0: 0},
    {0, 1},
    list(range(24)),
    list(range(200)),
]


def partings(places):
    """All ways to put these places into lists."""
    if not places:
        yield []
        return
    for rest in partings(places[1:]):
        yield [[places[0]]] + rest
        for at in range(len(rest)):
            yield rest[:at] + [[places[0]] + rest[at]] + rest[at + 1:]


def parts_words(words, parting):
    """Whether what each of the words has on in each of the lists is one of the words."""
    lists = [sum(2 ** place for place in part) for part in parting]
    return all(word & one in words for word in words for one in lists)


def plain_parts(room):
    """The parting of the most lists among all that the room makes."""
    words = set(all_sums(room.basis()))
    good = [parting for parting in partings(list(range(room.places))) if parts_words(words, parting)]
    most = max(len(parting) for parting in good)
    finest = [parting for parting in good if len(parting) == most]
    assert len(finest) == 1
    return sorted(finest[0])


def plain_part_words(room, spots):
    """The words of the part room, each word of the room gone through."""
    inside = sum(2 ** spot for spot in spots)
    words = [word for word in all_sums(room.basis()) if word & ~inside == 0]
    return sorted(sum(2 ** at for at, spot in enumerate(spots) if word & 2 ** spot) for word in words)


def mixed(seed, rooms):
    """The rooms beside one another, places exchanged, and the sequence."""
    made = rooms[0]
    for room in rooms[1:]:
        made = beside(made, room)
    sequence = random.Random(seed).sample(range(made.places), made.places)
    return exchanged(made, sequence), sequence


# each with one part alone
WHOLE = [Room(1, []), Room(1, [1]), Room(2, [3]), Room(3, [7]), Room(4, [15]), Room(8, EIGHT_WORDS), Room(5, [7, 28])]


class TestExamples(unittest.TestCase):
    def test_the_examples_of_the_interface(self):
        two = Room(4, [3, 12])
        told = [parts(two), parts(Room(4, [15])), parts(Room(3, [1])), part_room(two, [3, 2]) == Room(2, [3])]
        told.append(part_room(two, [0, 2, 3]).basis())
        self.assertEqual(repr(told), "[[[0, 1], [2, 3]], [[0, 1, 2, 3]], [[0], [1], [2]], True, [6]]")


class TestParts(Checks):
    def check_parts(self, room, wanted):
        told = self.asked(parts, room=room)
        self.assertIs(type(told), list)
        self.assertEqual({type(part) for part in told}, {list})
        self.assertEqual(told, wanted)

    def test_against_all_partings(self):
        rooms = [room for places in [1, 2, 3, 4] for room in all_rooms(places)]
        for room in rooms + list(drawn_rooms(97, [5, 6, 7])) + list(drawn_rooms(98, [5, 6, 7] * 3, 3)):
            self.check_parts(room, plain_parts(room))

    def test_rooms_beside_one_another(self):
        chance = random.Random(99)
        for seed in range(60):
            rooms = [chance.choice(WHOLE)]
            while rooms[-1].places + sum(room.places for room in rooms) <= 22:
                rooms.append(chance.choice(WHOLE))
            made, sequence = mixed(seed, rooms[:-1] or rooms)
            wanted, start = [], 0
            for room in rooms[:-1] or rooms:
                wanted.append(sorted(sequence[start:start + room.places]))
                start += room.places
            self.check_parts(made, sorted(wanted))

    def test_places_that_are_off_and_words_with_one_place(self):
        for places in range(1, 25):
            single = [[place] for place in range(places)]
            self.check_parts(Room(places, []), single)
            self.check_parts(Room(places, units(places)), single)
            self.check_parts(Room(places, [2 ** places - 1]), [list(range(places))])
            self.check_parts(Room(places, units(places)[::2]), single)
        self.check_parts(Room(5, [6]), [[0], [1, 2], [3], [4]])
        self.check_parts(Room(5, [6, 2]), [[0], [1], [2], [3], [4]])
        self.check_parts(Room(4, [3, 6, 12]), [[0, 1, 2, 3]])
        self.check_parts(Room(4, [9, 6]), [[0, 3], [1, 2]])

    def test_own_rooms(self):
        self.check_parts(Room(24, GOLAY_WORDS), [list(range(24))])
        for places in range(2, 25, 2):
            self.check_parts(Room(places, pair_words(places)), [[place, place + 1] for place in range(0, places, 2)])
        for places in [8, 12, 16, 20, 24]:
            self.check_parts(Room(places, lot_words(places)), [list(range(places))])

    def test_the_contrary_has_the_same_parts(self):
        for room in list(few_rooms())[::3] + list(large_rooms()) + list(drawn_own_rooms(100, [12, 18, 24])):
            self.assertEqual(parts(contrary(room)), parts(room))

    def test_each_place_in_just_one(self):
        for room in list(few_rooms()) + list(large_rooms()):
            told = parts(room)
            self.assertEqual(sorted(place for part in told for place in part), list(range(room.places)))
            self.assertEqual(told, sorted(sorted(part) for part in told))

    def test_the_room_is_the_sum_of_its_part_rooms(self):
        for room in list(few_rooms()) + list(large_rooms()):
            made = []
            for part in parts(room):
                for word in part_room(room, part).basis():
                    made.append(sum(2 ** place for at, place in enumerate(part) if word & 2 ** at))
            self.assertEqual(len(made), room.dimension)
            self.assertEqual(Room(room.places, made), room)


class TestPartRoom(Checks):
    def check_part_room(self, room, spots):
        told = self.asked(part_room, room=room, spots=spots)
        self.assertIsInstance(told, Room)
        self.assertEqual(told.places, len(spots))
        self.assertEqual(all_sums(told.basis()), plain_part_words(room, spots))
        self.assertEqual(part_room(room, tuple(spots)), told)

    def test_against_words_gone_through(self):
        chance = random.Random(101)
        for room in list(few_rooms()) + list(drawn_rooms(102, [9, 16, 23, 24], 9)):
            for _ in range(4):
                self.check_part_room(room, chance.sample(range(room.places), chance.randrange(1, room.places + 1)))

    def test_all_places_in_each_sequence(self):
        for room in all_rooms(3):
            for spots in [[0, 1, 2], [1, 2, 0], [2, 1, 0], [2, 0, 1], [0, 2, 1], [1, 0, 2]]:
                self.check_part_room(room, spots)
                back = [spots.index(place) for place in range(3)]
                self.assertEqual(part_room(room, spots), exchanged(room, back))

    def test_the_sequence_counts(self):
        room = Room(4, [3, 4])
        told = [part_room(room, spots) for spots in [[0, 1, 2], [2, 1, 0], [2, 0], [1, 2], [3, 0], [3], [2]]]
        wanted = [Room(3, [3, 4]), Room(3, [1, 6]), Room(2, [1]), Room(2, [2]), Room(2, []), Room(1, []), Room(1, [1])]
        self.assertEqual(told, wanted)

    def test_rooms_beside_one_another(self):
        for seed, rooms in enumerate([[Room(8, EIGHT_WORDS), Room(5, [7, 28])], [Room(3, [7]), Room(2, [3])] * 3]):
            made, sequence = mixed(seed, rooms)
            start = 0
            for room in rooms:
                self.assertEqual(part_room(made, sequence[start:start + room.places]), room)
                start += room.places

    def test_wrong_values(self):
        for spots in [[0, 1], (3,), [3, 2, 1, 0]]:
            wrong = {"room": (InvalidRoom, NO_ROOMS), "spots": (InvalidSpots, NO_SPOTS)}
            self.check_wrong(part_room, {"room": Room(4, [3, 12]), "spots": spots}, wrong)
        self.check_wrong(parts, {"room": Room(2, [3])}, {"room": (InvalidRoom, NO_ROOMS)})

    def test_just_below_the_places(self):
        for places in range(1, 25):
            room = Room(places, [2 ** places - 1])
            self.check_part_room(room, [places - 1])
            self.check_part_room(room, list(range(places))[::-1])
            self.check_error(InvalidSpots, {"value": [places]}, part_room, room=room, spots=[places])
            spots = (places - 1, places - 1)
            self.check_error(InvalidSpots, {"value": spots}, part_room, room=room, spots=spots)


class TestCopies(Checks):
    def test_told_lists_are_new(self):
        for room in [Room(4, [3, 12]), Room(3, []), Room(8, EIGHT_WORDS)]:
            self.check_new(parts, room)
            told = parts(room)
            told[0].append(1)
            self.assertNotEqual(parts(room), told)

    def test_nothing_that_is_passed_is_changed(self):
        room, spots = Room(4, [3, 12]), [0, 2, 3]
        part_room(room, spots).basis().append(1)
        self.assertEqual((room, spots), (Room(4, [3, 12]), [0, 2, 3]))
        self.assertEqual(part_room(room, spots), Room(3, [6]))


if __name__ == "__main__":
    unittest.main()
