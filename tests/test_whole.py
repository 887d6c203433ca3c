"""What the document promises over the whole program: the guarantees, and one room led through all stages."""

import itertools
import math
import random
import unittest

from owncontraries.alike import alike, is_alike, own_exchanges
from owncontraries.chains import chain, distance, is_chain, same_family
from owncontraries.claims import contrary_claim, is_claim, is_paper_of, is_true, paper_of
from owncontraries.contraries import contrary, is_own, is_still, is_why_not_own, why_not_own
from owncontraries.desk import Desk
from owncontraries.fills import fill_count, filled, fills
from owncontraries.fours import fours_count, fours_fills, fours_half, is_by_fours, why_not_fours
from owncontraries.halves import is_vector, vector_row, vectors
from owncontraries.kinds import fours_kinds, pairs
from owncontraries.limits import can_be, fours_limit, limit, shadow_of
from owncontraries.mixes import beside, common_room, cut, exchanged, lies_in, shortened, sum_room
from owncontraries.moments import moment, walks
from owncontraries.neighbours import are_neighbours, neighbour, neighbours
from owncontraries.numbers import fours_number, own_number
from owncontraries.parts import part_room, parts
from owncontraries.readers import read
from owncontraries.rooms import Room
from owncontraries.shadows import beside_two, is_shadow_word, shadow_row, shadow_word
from owncontraries.sums import fours_row_of, fours_sums, row_of, sums
from owncontraries.tables import changed, is_own_row, is_row
from owncontraries.texts import is_of, written
from owncontraries.told import kind_of, lacking, told_kinds
from owncontraries.weights import least, least_words, row
from owncontraries.words import places_of, weight, word_of
from tests.drawn import EIGHT_WORDS, GOLAY_WORDS, drawn_fours_rooms, drawn_own_rooms, drawn_rooms, few_rooms, lot_words
from tests.drawn import own_rooms, own_rooms_of, pair_words, still_rooms, units
from tests.test_deeds import room_line
from tests.test_texts import plain_signs


def moved(chance, room):
    """The room with its places exchanged, and the sequence."""
    sequence = chance.sample(range(room.places), room.places)
    return exchanged(room, sequence), sequence


def some_own_rooms():
    """Own rooms of 2 to 24 places."""
    yield from own_rooms()
    yield from drawn_own_rooms(201, list(range(2, 25, 2)))
    yield from drawn_fours_rooms(202, [8, 16, 24])


class TestGuarantees(unittest.TestCase):
    def test_own_or_not(self):
        for room in list(few_rooms()) + list(some_own_rooms()) + list(drawn_rooms(203, [9, 13, 24])):
            told = why_not_own(room)
            self.assertIs(is_own(room), told is None)
            self.assertIs(is_own(room), contrary(room) == room)
            self.assertIs(is_true(("own", room)), told is None)
            if told is not None:
                self.assertIs(is_why_not_own(room, told), True)
                self.assertIs(is_paper_of(("bent", room), told), True)
            # never both
            for base in room.basis():
                for other in contrary(room).basis():
                    for paper in [("odd", base, other), ("lacks", other)]:
                        self.assertFalse(is_own(room) and is_why_not_own(room, paper))

    def test_filled_up(self):
        for room in list(still_rooms(204, [1, 2, 3, 4, 5, 6, 8])) + [Room(24, GOLAY_WORDS[:4]), Room(23, [3])]:
            told = filled(room)
            if room.places % 2:
                self.assertEqual([told, fill_count(room)], [None, 0])
                self.assertEqual(fills(room), [])
                continue
            self.assertIs(is_own(told) and lies_in(room, told), True)
            if fill_count(room) <= 135:
                self.assertEqual(len(fills(room)), fill_count(room))
                self.assertIn(told, fills(room))
                if room.places < 9:
                    own = [other for other in own_rooms_of(room.places) if lies_in(room, other)]
                    self.assertEqual(len(own), fill_count(room))

    def test_chains(self):
        for places in [4, 8, 14, 24]:
            rooms = list(drawn_own_rooms(205, [places] * 4))
            for room, other in itertools.product(rooms, repeat=2):
                told = chain(room, other)
                self.assertEqual(len(told), distance(room, other) + 1)
                self.assertIs(is_chain(room, other, told), True)
                for at, one in enumerate(told):
                    self.assertEqual(distance(one, other), len(told) - 1 - at)
                # no step shortens the distance by more than one
                for one in neighbours(room) if places <= 8 else []:
                    self.assertLessEqual(abs(distance(one, other) - distance(room, other)), 1)

    def test_rows(self):
        for room in some_own_rooms():
            told = sums(row(room))
            self.assertIsNotNone(told)
            self.assertEqual(row_of(room.places, told), row(room))
            self.assertIs(can_be(row(room)), True)
            self.assertEqual(shadow_of(room.places, told), shadow_row(room))
            for at in range(len(told)):
                other = told[:at] + [told[at] + 1] + told[at + 1:]
                self.assertNotEqual(row_of(room.places, other), row(room))
            broken = list(row(room))
            broken[-1] += 1
            self.assertIsNone(sums(broken))

    def test_kinds(self):
        for places in range(2, 13, 2):
            rooms = list(drawn_own_rooms(206, [places] * 5)) + [room for name, room, many in told_kinds(places)]
            for room, other in itertools.combinations(rooms, 2):
                same = len(pairs(room)) == len(pairs(other))
                same = same and [one[0] for one in fours_kinds(room)] == [one[0] for one in fours_kinds(other)]
                self.assertIs(alike(room, other) is not None, same)
                self.assertIs(kind_of(room) == kind_of(other), same)

    def test_the_sum(self):
        for places in range(2, 17, 2):
            kinds = told_kinds(places)
            self.assertEqual(sum(math.factorial(places) // many for name, room, many in kinds), own_number(places))
            self.assertEqual(lacking([room for name, room, many in kinds]), 0)
            self.assertEqual(own_number(places), fill_count(Room(places, [])))


class TestOneRoom(unittest.TestCase):
    """An own room of 16 places that is not by fours is led through all stages."""

    def setUp(self):
        chance = random.Random(207)
        made = beside(beside(Room(2, [3]), Room(12, lot_words(12))), Room(2, [3]))
        self.room, self.sequence = moved(chance, made)
        self.made = made
        self.chance = chance

    def test_words_and_rooms(self):
        room = self.room
        self.assertEqual([room.places, room.dimension, len(room.words())], [16, 8, 256])
        for word in room.words():
            self.assertIs(room.has(word), True)
            self.assertEqual(word_of(places_of(word)), word)
        self.assertEqual(Room(16, room.words()[1:9] + room.basis()), room)

    def test_mixes_and_contraries(self):
        room, other = self.room, self.made
        both, common = sum_room(room, other), common_room(room, other)
        self.assertEqual(both.dimension + common.dimension, 16)
        self.assertEqual(contrary(both), common)
        self.assertEqual(distance(room, other), 8 - common.dimension)
        self.assertEqual(contrary(room), room)
        for lot in parts(room):
            word = word_of(lot)
            self.assertEqual(shortened(room, word), cut(room, word))
            self.assertIs(is_own(part_room(room, lot)), True)

    def test_fill_ups(self):
        room = self.room
        half = fours_half(room)
        self.assertIs(is_own(half), False)
        self.assertEqual(fill_count(half), 3)
        self.assertEqual(len([one for one in fills(half) if one == room]), 1)
        two = beside_two(room)
        self.assertEqual(sorted([one.basis() for one in two] + [room.basis()]), [one.basis() for one in fills(half)])
        self.assertEqual(fours_fills(half), two)
        self.assertEqual(fours_count(half), 2)
        self.assertIs(same_family(*two), False)
        for one in two:
            self.assertIs(are_neighbours(room, one), True)

    def test_rows(self):
        room = self.room
        numbers = row(room)
        self.assertIs(is_row(numbers) and is_own_row(numbers), True)
        self.assertEqual(changed(numbers), numbers)
        self.assertEqual([least(room), least_words(room)], [2, pairs(room)])
        self.assertEqual([weight(word) for word in room.words()].count(6), numbers[6])
        for power in [0, 1, 2, 5]:
            told = sum(number * walks(16, at, power) for at, number in enumerate(numbers))
            self.assertEqual(moment(numbers, power), 256 * told)
        self.assertEqual(row_of(16, sums(numbers)), numbers)
        self.assertLessEqual(least(room), limit(16))
        for one in beside_two(room):
            self.assertEqual(fours_row_of(16, fours_sums(row(one))), row(one))
            self.assertLessEqual(least(one), fours_limit(16))

    def test_neighbours(self):
        room = self.room
        word = [15 << at for at in range(13) if not room.has(15 << at)][0]
        other = neighbour(room, word)
        self.assertIs(are_neighbours(room, other), True)
        self.assertEqual(chain(room, other), [room, other])
        self.assertIs(is_true(("beside", room, other)), True)
        self.assertIs(is_paper_of(("beside", room, other), word), True)
        self.assertEqual([contrary(common_room(room, other)), is_own(other)], [sum_room(room, other), True])

    def test_shadows(self):
        room = self.room
        word = shadow_word(room)
        self.assertIs(is_shadow_word(room, word), True)
        self.assertEqual(sum(shadow_row(room)), 256)
        two = beside_two(room)
        self.assertEqual([one.has(word) for one in two].count(True), 1)
        self.assertEqual(why_not_fours(two[0]), None)
        self.assertEqual(weight(why_not_fours(room)) % 4, 2)

    def test_kinds(self):
        room = self.room
        self.assertEqual(kind_of(room), "2+2+d12")
        self.assertEqual([len(lot) for kind, lot in fours_kinds(room)], [12])
        self.assertEqual(sorted(len(lot) for lot in parts(room)), [2, 2, 12])
        own = own_exchanges(Room(12, lot_words(12))) * 8
        found = {name: (one, many) for name, one, many in told_kinds(16)}
        self.assertEqual(found["2+2+d12"][1], own)
        self.assertEqual(own_number(16) - lacking([room]), math.factorial(16) // own)
        self.assertIs(is_alike(self.made, room, self.sequence), True)
        lot = fours_kinds(room)[0][1]
        self.assertIsNotNone(alike(part_room(room, lot), Room(12, lot_words(12))))

    def test_lists(self):
        room = self.room
        self.assertEqual(vectors(room, 2), 4 * len(pairs(room)))
        self.assertEqual(vector_row(room, 2), [1, 0, 8])
        for word in room.words()[::17]:
            self.assertIs(is_vector(room, [3 * (word >> place & 1) for place in range(16)]), True)
        # half the sizes of rooms by fours are even
        told = vector_row(beside_two(room)[0], 24)
        self.assertEqual([number for size, number in enumerate(told) if size % 4], [0] * 18)

    def test_texts_and_claims(self):
        room = self.room
        for sort, value in [
            ("room", room), ("row", row(room)), ("numbers", sums(row(room))), ("sequence", self.sequence),
        ]:
            self.assertIs(is_of(sort, value), True)
            self.assertEqual(read(written(sort, value)), (sort, value))
        claims = [
            ("own", room), ("still", room), ("uneven", room), ("has", room, 65535),
            ("holds", room, fours_half(room)),
        ]
        claims += [("apart", room, self.made), ("sum", row(room))]
        for claim in claims:
            self.assertIs(is_claim(claim) and is_true(claim), True)
            self.assertIs(is_paper_of(claim, paper_of(claim)), True)
            self.assertIs(is_true(contrary_claim(claim)), False)

    def test_a_desk(self):
        room = self.room
        desk = Desk()
        desk.do_all(room_line("m", 16, self.made.basis()), "copy r m")
        desk("exchange r " + ",".join(str(place) for place in self.sequence))
        self.assertEqual([desk["r"], desk["m"]], [room, self.made])
        desk.do_all("row n r", "half h r", "contrary c r", "word w " + plain_signs(16, 65535))
        self.assertEqual([desk["n"], desk["h"], desk["c"]], [row(room), fours_half(room), room])
        told = desk.do_all("kind r", "least r", "fills h", "distance r m", "vectors r 2", "sums n")
        told += desk.do_all("pairs r", "rooms 16")
        wanted = [kind_of(room), "2", "3", str(distance(room, self.made)), "8", ",".join(map(str, sums(row(room))))]
        wanted += [" ".join(plain_signs(16, pair) for pair in pairs(room)), str(own_number(16))]
        self.assertEqual(told, wanted)
        told = desk.do_all("claim a own r", "claim b fours r", "claim d has r w", "claim e holds r h", "claim f own h")
        self.assertEqual(told, ["a true", "b false", "d true", "e true", "f false"])
        for label in desk.labels:
            claim = desk.claim_of(label)
            self.assertEqual(desk("state " + label), str(is_true(claim)).lower())
            desk.attach(label, paper_of(claim) if is_true(claim) else paper_of(contrary_claim(claim)))
            self.assertIs(desk.fits(label), True)
        told = desk("shown r").split(" ")
        self.assertEqual(told, ["room", "16"] + [plain_signs(16, base) for base in room.basis()])
        other = Desk.again(desk.lines())
        self.assertEqual([other["r"], other("states")], [room, desk("states")])


class TestAlikeRooms(unittest.TestCase):
    """Rooms that are alike get the same answers wherever no place is told."""

    def check_same(self, room, other, functions):
        for function in functions:
            with self.subTest(function.__name__, room=room, other=other):
                self.assertEqual(function(room), function(other))

    def test_any_rooms(self):
        chance = random.Random(208)
        for room in list(drawn_rooms(209, [3, 6, 9, 12])) + [Room(12, units(12)), Room(8, [15, 51])]:
            other, sequence = moved(chance, room)
            self.check_same(room, other, [row, least, is_still, is_own, is_by_fours, own_exchanges])
            self.check_same(room, other, [lambda one: len(parts(one)), lambda one: row(contrary(one))])
            self.check_same(room, other, [lambda one: vector_row(one, 12), lambda one: len(written("room", one))])
            self.assertEqual(sorted(map(len, parts(room))), sorted(map(len, parts(other))))
            for lot in parts(room):
                self.assertIn(sorted(sequence[place] for place in lot), parts(other))
            self.assertEqual(exchanged(contrary(room), sequence), contrary(other))
            self.assertIs(is_true(("alike", room, other)), True)
            self.assertIs(is_paper_of(("alike", room, other), sequence), True)
            for word in ["still", "own", "fours"]:
                self.assertEqual(is_true((word, room)), is_true((word, other)))

    def test_own_rooms(self):
        chance = random.Random(210)
        for room in some_own_rooms():
            other, sequence = moved(chance, room)
            self.check_same(room, other, [row, least, is_own, is_by_fours, shadow_row, fill_count])
            self.check_same(room, other, [lambda one: len(pairs(one)), lambda one: row(fours_half(one))])
            self.check_same(room, other, [lambda one: sums(row(one)), lambda one: [lot[0] for lot in fours_kinds(one)]])
            if room.places <= 16:
                self.check_same(room, other, [kind_of, lambda one: lacking([one])])
            third, _ = moved(chance, room)
            self.assertEqual(distance(room, third), distance(other, exchanged(third, sequence)))

    def test_known_numbers(self):
        self.assertEqual([fours_number(8), own_number(8)], [30, 135])
        self.assertEqual(len([room for room in own_rooms_of(8) if is_by_fours(room)]), 30)
        eights = [room for room in own_rooms_of(8) if alike(room, Room(8, EIGHT_WORDS)) is not None]
        self.assertEqual(len(eights), 30)
        four_pairs = Room(8, pair_words(8))
        self.assertEqual(len([room for room in own_rooms_of(8) if alike(four_pairs, room) is not None]), 105)


if __name__ == "__main__":
    unittest.main()
