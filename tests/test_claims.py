"""Claims, their contraries, whether they are true, and their papers."""

import itertools
import random
import unittest

from owncontraries.claims import contrary_claim, is_claim, is_paper_of, is_true, paper_of, words
from owncontraries.errors import InvalidClaim
from owncontraries.mixes import beside, exchanged
from owncontraries.rooms import Room
from tests.checks import Checks
from tests.drawn import EIGHT_WORDS, GOLAY_WORDS, all_rooms, all_sums, drawn_fours_rooms, drawn_own_rooms, drawn_rooms
from tests.drawn import few_rooms, lot_words, odd, ons, own_rooms, own_rooms_of, pair_words, still_rooms, units
from tests.polynomials import plain_row
from tests.values import AT_LEAST_ZERO, BELOW_ZERO, NO_INTEGERS, NO_NUMBER_LISTS, NO_ROOMS, NO_WORDS, Plain

TABLE = [
    ("still", "odd"),
    ("own", "bent"),
    ("fours", "uneven"),
    ("has", "lacks"),
    ("holds", "spills"),
    ("alike", "unlike"),
    ("beside", "apart"),
    ("sum", "sumless"),
]
FIRSTS = [first for first, second in TABLE]
SECONDS = [second for first, second in TABLE]
PAIRS, CROSS, NEST = Room(4, [3, 12]), Room(4, [5, 10]), Room(4, [6, 9])
EIGHT = Room(8, EIGHT_WORDS)


def word_set(room):
    return set(all_sums(room.basis()))


def evens(room):
    """All words that are even to each word of the room."""
    return {word for word in range(2 ** room.places) if not any(odd(word, base) for base in room.basis())}


def leads(room, other, sequence):
    """Whether the sequence leads the room to the other one."""
    led = set()
    for word in word_set(room):
        led.add(sum(2 ** end for place, end in enumerate(sequence) if word & 2 ** place))
    return led == word_set(other)


def plain_truth(first, parts):
    """Whether the first claim of a line is true, words gone through one by one."""
    room = parts[0]
    if first == "still":
        return all(not odd(word, other) for word in room.basis() for other in room.basis())
    if first == "own":
        return evens(room) == word_set(room)
    if first == "fours":
        return all(ons(word) % 4 == 0 for word in word_set(room))
    if first == "has":
        return parts[1] in word_set(room)
    if first == "holds":
        return word_set(parts[1]) <= word_set(room)
    if first == "alike":
        return any(leads(room, parts[1], sequence) for sequence in itertools.permutations(range(room.places)))
    if first == "beside":
        return 2 * len(word_set(room) & word_set(parts[1])) == len(word_set(room))
    places = len(room) - 1
    found = []
    for at in range(places // 8 + 1):
        told = plain_row(places, found + [0] * (places // 8 + 1 - at))
        found.append(room[2 * at] - told[2 * at])
    return plain_row(places, found) == list(room)


def sum_numbers(numbers):
    """The INTEGERS of a sum that the numbers are."""
    places = len(numbers) - 1
    found = []
    for at in range(places // 8 + 1):
        told = plain_row(places, found + [0] * (places // 8 + 1 - at))
        found.append(numbers[2 * at] - told[2 * at])
    return found


def is_int(value):
    return isinstance(value, int) and not isinstance(value, bool)


def is_plain_word(places, value):
    return is_int(value) and 0 <= value < 2 ** places


def plain_span(room, value):
    """Whether the value is a span of the room, its words even to one another."""
    if not isinstance(value, (list, tuple)) or len(value) > 48:
        return False
    if not all(is_plain_word(room.places, word) for word in value):
        return False
    if set(all_sums(value)) != word_set(room):
        return False
    return not any(odd(word, other) for word in value for other in value)


def plain_sum(room, word, value):
    """Whether the value is a list of unlike positions in the plain basis that sum up to the word."""
    if not isinstance(value, (list, tuple)) or not all(is_int(at) and 0 <= at < room.dimension for at in value):
        return False
    total = 0
    for at in value:
        total ^= room.basis()[at]
    return len(set(value)) == len(value) and total == word


def plain_first_paper(first, parts, value):
    """Whether the value is a paper of the first claim of a line."""
    room = parts[0]
    if first == "still":
        return plain_span(room, value)
    if first == "own":
        return plain_span(room, value) and 2 * room.dimension == room.places
    if first == "fours":
        return plain_span(room, value) and all(ons(word) % 4 == 0 for word in value)
    if first == "has":
        return plain_sum(room, parts[1], value)
    if first == "holds":
        basis = parts[1].basis()
        if not isinstance(value, (list, tuple)) or len(value) != len(basis):
            return False
        return all(plain_sum(room, word, one) for word, one in zip(basis, value))
    if first == "alike":
        if not isinstance(value, (list, tuple)) or not all(is_int(at) for at in value):
            return False
        return sorted(value) == list(range(room.places)) and leads(room, parts[1], value)
    if first == "beside":
        if not is_plain_word(room.places, value) or ons(value) % 2 == 1 or value in word_set(room):
            return False
        half = {word for word in word_set(room) if not odd(word, value)}
        return half | {word ^ value for word in half} == word_set(parts[1])
    if not isinstance(value, (list, tuple)) or not all(is_int(number) for number in value):
        return False
    return plain_truth("sum", parts) and list(value) == sum_numbers(room)


def plain_second_paper(first, parts, value):
    """Whether the value is a paper of the contrary claim of a line."""
    room = parts[0]
    if first == "own" and isinstance(value, tuple) and value[:1] == ("odd",):
        return plain_second_paper("still", parts, value[1:])
    if first == "still":
        if not isinstance(value, tuple) or len(value) != 2:
            return False
        return all(is_int(word) and word in word_set(room) for word in value) and odd(*value)
    if first == "own":
        if not isinstance(value, tuple) or len(value) != 2 or value[0] != "lacks":
            return False
        return is_int(value[1]) and value[1] in evens(room) and value[1] not in word_set(room)
    if first == "fours":
        return is_int(value) and value in word_set(room) and ons(value) % 4 != 0
    if first == "has":
        return is_int(value) and value in evens(room) and odd(value, parts[1])
    if first == "holds":
        return is_int(value) and value in word_set(parts[1]) and value not in word_set(room)
    if first == "beside":
        lack = len(word_set(room)) // len(word_set(room) & word_set(parts[1]))
        return lack != 2 and is_int(value) and 0 <= value <= 12 and 2 ** value == lack
    return value == () and isinstance(value, tuple) and not plain_truth(first, parts)


def small_parts():
    """The first words of lines with parts, of few places."""
    chance = random.Random(181)
    rooms = [room for places in [1, 2, 3] for room in all_rooms(places)] + chance.sample(all_rooms(4), 25)
    rooms += list(still_rooms(182, [6, 8])) + list(still_rooms(183, [8], 4)) + list(drawn_rooms(184, [5, 7]))
    rooms += [PAIRS, EIGHT, Room(4, [14])]
    for room in rooms:
        for first in ["still", "own", "fours"]:
            yield first, (room,)
        drawn = [chance.randrange(2 ** room.places), chance.choice(all_sums(room.basis()))]
        for word in sorted({0, 1, 2 ** room.places - 1} | set(drawn)):
            yield "has", (room, word)
        others = [other for other in rooms if other.places == room.places]
        drawn = chance.sample(others, min(len(others), 3))
        for other in [room, Room(room.places, []), Room(room.places, units(room.places))] + drawn:
            yield "holds", (room, other)
            if room.places <= 6:
                yield "alike", (room, other)
    for places in [2, 4, 6]:
        owns = own_rooms_of(places)
        for room, other in itertools.product(owns[:6], owns):
            yield "beside", (room, other)
    for room in chance.sample(own_rooms_of(8), 20):
        yield "beside", (EIGHT, room)
    for places in range(2, 25, 2):
        numbers = plain_row(places, [1] + [chance.randrange(-9, 9) for _ in range(places // 8)])
        yield "sum", (numbers,)
        yield "sum", (tuple(numbers),)
        yield "sum", (numbers[:-1] + [numbers[-1] + 1],)
        yield "sum", ([0] * (places + 1),)
        yield "sum", ([1] + [0] * places,)


def tricky_values():
    """Values that are near papers of some claims."""
    yield from [[], (), [0], (0,), [0, 0], [1, 0], (0, 1), [0, 1], [2, 0], 0, 1, 2, 3, 5, 14, -1, None, True, False, ""]
    yield from [[3, 12], (12, 3), [12, 3, 15], [3, 3, 12], [15, 12], [3], [12, 0, 3], [True, 2]]
    yield from [[[0], [1]], ([1], (0,)), [[1], [0]], [(0,), [1, 0]]]
    yield from [("odd", 1, 1), ["odd", 1, 1], ("odd", 1), ("lacks", 1), ["lacks", 1], ("lacks", True), ("odd", 14, 14)]
    yield from [(14, 14), [14, 14], (1, 1), (1, 3), (True, True), (0, 1, 2), [0, 1, 2, 3], (3, 2, 1, 0), [[]], ((),)]
    yield from [[1], [1, -4], (1,), [1.0][:0], [EIGHT], EIGHT, {}, set(), "1", b"", [None], [[0, 1], [1]], [[True]]]
    yield from [EIGHT_WORDS, tuple(EIGHT_WORDS), EIGHT_WORDS + [0], EIGHT_WORDS * 12, EIGHT_WORDS * 12 + [0]]


class TestExamples(unittest.TestCase):
    def test_the_examples_of_the_interface(self):
        pairs, half = Room(4, [12, 3]), Room(4, [14])
        told = [is_true(("own", pairs)), contrary_claim(("has", pairs, 5))[0], is_paper_of(("fours", pairs), [12, 3])]
        told += [is_paper_of(("odd", half), (14, 14)), is_paper_of(("has", pairs, 15), [1, 0])]
        told += [is_paper_of(("lacks", pairs, 5), 3)]
        self.assertEqual(told, [True, "lacks", False, True, True, True])


class TestWords(Checks):
    def test_in_their_sequence(self):
        told = self.asked(words)
        self.assertEqual(told, TABLE)
        self.assertEqual({type(one) for one in told}, {tuple})
        self.check_new(words)


class TestTruth(Checks):
    def test_against_words_gone_through(self):
        found = set()
        for first, parts in small_parts():
            second = SECONDS[FIRSTS.index(first)]
            wanted = plain_truth(first, parts)
            found.add((first, wanted))
            with self.subTest(first, parts=parts):
                self.assertIs(self.truth(is_claim, value=(first, *parts)), True)
                self.assertIs(self.truth(is_claim, value=(second, *parts)), True)
                self.assertIs(self.truth(is_true, claim=(first, *parts)), wanted)
                self.assertIs(self.truth(is_true, claim=(second, *parts)), not wanted)
        self.assertEqual(len(found), 16)

    def test_larger_rooms(self):
        golay = Room(24, GOLAY_WORDS)
        for word, parts, wanted in [
            ("own", (golay,), True),
            ("fours", (golay,), True),
            ("still", (Room(24, units(24)),), False),
            ("has", (golay, 2 ** 24 - 1), True),
            ("holds", (golay, Room(24, [2 ** 24 - 1])), True),
            ("holds", (Room(24, [2 ** 24 - 1]), golay), False),
            ("beside", (golay, Room(24, pair_words(24))), False),
            ("alike", (Room(12, pair_words(12)), Room(12, lot_words(12))), False),
            ("alike", (Room(12, pair_words(12)), exchanged(Room(12, pair_words(12)), list(range(12))[::-1])), True),
        ]:
            self.assertIs(is_true((word, *parts)), wanted)
            self.assertIs(is_true((SECONDS[FIRSTS.index(word)], *parts)), not wanted)


class TestContrary(Checks):
    def test_the_other_word_and_the_same_parts(self):
        for first, parts in small_parts():
            second = SECONDS[FIRSTS.index(first)]
            for word, other in [(first, second), (second, first)]:
                told = self.asked(contrary_claim, claim=(word, *parts))
                self.assertEqual((type(told), told), (tuple, (other, *parts)))
                self.assertEqual([type(part) for part in told[1:]], [type(part) for part in parts])
                self.assertEqual(contrary_claim(told), (word, *parts))

    def test_lists_are_copies(self):
        numbers = [1, 0, 1]
        told = contrary_claim(("sum", numbers))
        self.assertIsNot(told[1], numbers)
        told[1].append(5)
        self.assertEqual(numbers, [1, 0, 1])
        self.assertEqual(contrary_claim(("sum", numbers)), ("sumless", [1, 0, 1]))
        self.assertEqual(contrary_claim(("sumless", (1, 0, 1))), ("sum", (1, 0, 1)))


class TestPapers(Checks):
    def check_told(self, claim, other):
        """A true claim has a paper that is none of the other one, which is false."""
        told = self.asked(paper_of, claim=claim)
        self.assertIsNotNone(told)
        self.assertIs(self.truth(is_paper_of, claim=claim, value=told), True)
        self.assertIs(self.truth(is_paper_of, claim=other, value=told), False)
        self.assertIsNone(self.asked(paper_of, claim=other))
        return told

    def test_just_one_of_both_has_a_paper(self):
        for first, parts in small_parts():
            claim, other = (first, *parts), (SECONDS[FIRSTS.index(first)], *parts)
            with self.subTest(first, parts=parts):
                if is_true(claim):
                    told = self.check_told(claim, other)
                    self.assertIs(plain_first_paper(first, parts, told), True)
                    if isinstance(told, list):
                        self.assertIs(is_paper_of(claim, tuple(told)), True)
                else:
                    told = self.check_told(other, claim)
                    self.assertIs(plain_second_paper(first, parts, told), True)
                    if isinstance(told, tuple):
                        self.assertIs(is_paper_of(other, list(told)), False)

    def test_larger_rooms(self):
        rooms = list(own_rooms()) + list(drawn_own_rooms(185, [14, 18, 24])) + list(drawn_fours_rooms(186, [16, 24]))
        rooms += list(drawn_rooms(187, [20, 23, 24], 9)) + [Room(24, units(24)), Room(24, [])]
        chance = random.Random(188)
        for room in rooms:
            claims = [(first, room) for first in ["still", "own", "fours"]]
            claims += [("has", room, chance.randrange(2 ** room.places)) for _ in range(3)]
            claims += [("has", room, base ^ room.basis()[-1]) for base in room.basis()[::4]]
            claims += [("holds", room, Room(room.places, words)) for words in [[], [1], room.basis()[1:], [3, 2]]]
            if room.places <= 12:
                claims += [("alike", room, exchanged(room, chance.sample(range(room.places), room.places)))]
            for claim in claims:
                other = contrary_claim(claim)
                self.check_told(*((claim, other) if is_true(claim) else (other, claim)))
        for places in [10, 16, 24]:
            owns = list(drawn_own_rooms(189, [places] * 3)) + [Room(places, pair_words(places))]
            for room, other in itertools.product(owns, repeat=2):
                claim = ("beside", room, other)
                self.check_told(*((claim, contrary_claim(claim)) if is_true(claim) else (contrary_claim(claim), claim)))

    def test_all_near_values(self):
        values = list(tricky_values())
        lots = list(small_parts())
        chance = random.Random(190)
        for first, parts in chance.sample(lots, 260):
            second = SECONDS[FIRSTS.index(first)]
            for value in values:
                with self.subTest(first, parts=parts, value=repr(value)[:80]):
                    told = is_paper_of((first, *parts), value)
                    self.assertIs(told, bool(plain_first_paper(first, parts, value)))
                    other = is_paper_of((second, *parts), value)
                    self.assertIs(other, bool(plain_second_paper(first, parts, value)))
                    self.assertFalse(told and other)

    def test_values_of_all_kinds(self):
        claims = [("still", PAIRS), ("own", PAIRS), ("fours", EIGHT), ("has", PAIRS, 15), ("holds", PAIRS, PAIRS)]
        claims += [("alike", PAIRS, CROSS), ("beside", PAIRS, NEST), ("sum", [1, 0, 1])]
        claims += [("still", Room(4, [14])), ("own", Room(4, [3])), ("fours", PAIRS), ("has", PAIRS, 5)]
        claims += [("holds", PAIRS, CROSS), ("alike", PAIRS, Room(4, [])), ("beside", PAIRS, PAIRS), ("sum", [1, 1, 0])]
        for claim in claims:
            for value in NO_INTEGERS + BELOW_ZERO + AT_LEAST_ZERO + [Plain(), PAIRS, [PAIRS], {"odd": 1}]:
                told = is_paper_of(claim, value)
                self.assertIs(told, bool(plain_first_paper(claim[0], claim[1:], value)))
                other = is_paper_of(contrary_claim(claim), value)
                self.assertIs(other, bool(plain_second_paper(claim[0], claim[1:], value)))

    def test_spans(self):
        claim = ("own", PAIRS)
        for value in [[3, 12], [12, 3], [3, 15], [15, 12], (3, 15, 12), [0, 3, 12], [3, 3, 12, 12], [3, 12] * 24]:
            self.assertIs(is_paper_of(claim, value), True)
            self.assertIs(is_paper_of(("still", PAIRS), value), True)
        for value in [
            [3, 12] * 24 + [15], [3], [3, 12, 5], [12], [], [3, 28], [3, 12, 16], [3, 12, -1], [3, True], "ab",
        ]:
            self.assertIs(is_paper_of(claim, value), False)
        for many in [47, 48, 49]:
            value = EIGHT_WORDS + [0] * (many - 4)
            for word in ["still", "own", "fours"]:
                self.assertIs(is_paper_of((word, EIGHT), value), many <= 48)
        # 16 words of eight places in all their sequences
        chance = random.Random(191)
        for _ in range(20):
            value = all_sums(EIGHT_WORDS)
            chance.shuffle(value)
            self.assertIs(is_paper_of(("fours", EIGHT), value), True)
            self.assertIs(is_paper_of(("own", EIGHT), value), True)
        # of a room with a word more or less
        for base in EIGHT.basis():
            less = [word for word in EIGHT.basis() if word != base]
            self.assertIs(is_paper_of(("still", EIGHT), less), False)
            self.assertIs(is_paper_of(("still", Room(8, less)), EIGHT.basis()), False)
            self.assertIs(is_paper_of(("still", Room(8, less)), less), True)
            self.assertIs(is_paper_of(("own", Room(8, less)), less), False)
        # still, but not by fours
        self.assertIs(is_paper_of(("fours", PAIRS), [3, 12]), False)
        self.assertIs(is_paper_of(("fours", Room(4, [15])), [15]), True)
        # a span of a room that is not still
        self.assertIs(is_paper_of(("still", Room(4, [3, 6])), [3, 6]), False)
        self.assertIs(is_paper_of(("still", Room(4, [1])), [1]), False)

    def test_lists_and_tuples(self):
        three = Room(4, [14])
        self.assertIs(is_paper_of(("odd", three), [14, 14]), False)
        self.assertIs(is_paper_of(("bent", three), ["odd", 14, 14]), False)
        self.assertIs(is_paper_of(("bent", three), ("odd", 14, 14)), True)
        self.assertIs(is_paper_of(("has", PAIRS, 15), (1, 0)), True)
        self.assertIs(is_paper_of(("holds", PAIRS, PAIRS), ([0], (1,))), True)
        self.assertIs(is_paper_of(("holds", PAIRS, PAIRS), [(0,), [1]]), True)
        self.assertIs(is_paper_of(("alike", PAIRS, CROSS), (0, 2, 1, 3)), True)
        self.assertIs(is_paper_of(("sum", (1, 0, 1)), (1,)), True)
        self.assertIs(is_paper_of(("unlike", PAIRS, Room(4, [])), []), False)
        self.assertIs(is_paper_of(("unlike", PAIRS, Room(4, [])), ()), True)
        self.assertIs(is_paper_of(("sumless", [1, 0, 2]), ()), True)
        self.assertIs(is_paper_of(("sumless", [1, 0, 2]), []), False)

    def test_the_contrary_must_be_true(self):
        self.assertIs(is_paper_of(("unlike", PAIRS, CROSS), ()), False)
        self.assertIs(is_paper_of(("sumless", [1, 0, 1]), ()), False)
        self.assertIs(is_paper_of(("apart", PAIRS, CROSS), 1), False)
        self.assertIs(is_paper_of(("apart", PAIRS, PAIRS), 0), True)
        self.assertIs(is_paper_of(("apart", PAIRS, PAIRS), False), False)
        self.assertIs(is_paper_of(("lacks", PAIRS, 3), 5), False)

    def test_told_papers_are_new(self):
        for claim in [
            ("own", PAIRS), ("has", PAIRS, 15), ("holds", PAIRS, PAIRS), ("alike", PAIRS, CROSS), ("sum", [1, 0, 1]),
        ]:
            self.check_new(paper_of, claim)
        told = paper_of(("holds", PAIRS, PAIRS))
        told[0].append(1)
        self.assertEqual(paper_of(("holds", PAIRS, PAIRS)), [[0], [1]])


class TestIsClaim(Checks):
    def check_none(self, value):
        with self.subTest(value=repr(value)[:200]):
            self.assertIs(self.truth(is_claim, value=value), False)
            for function in [is_true, contrary_claim, paper_of]:
                self.check_error(InvalidClaim, {"value": value}, function, claim=value)
            for paper in [[], (), None]:
                self.check_error(InvalidClaim, {"value": value}, is_paper_of, claim=value, value=paper)

    def test_values_of_all_kinds(self):
        for value in NO_INTEGERS + BELOW_ZERO + AT_LEAST_ZERO + [PAIRS, "own", ("own",), ("claim", PAIRS), (PAIRS,)]:
            self.check_none(value)

    def test_lists_are_no_claims(self):
        for claim in [["own", PAIRS], ["has", PAIRS, 3], ["sum", [1, 0, 1]], [("own", PAIRS)], (("own", PAIRS),)]:
            self.check_none(claim)

    def test_too_few_and_too_many_parts(self):
        for word in ["still", "odd", "own", "bent", "fours", "uneven"]:
            for claim in [(word,), (word, PAIRS, PAIRS), (word, PAIRS, 3), (word, PAIRS, None)]:
                self.check_none(claim)
        for word in ["has", "lacks", "holds", "spills", "alike", "unlike", "beside", "apart"]:
            for claim in [(word,), (word, PAIRS), (word, PAIRS, 3, 3), (word, PAIRS, PAIRS, PAIRS), (word, 3, PAIRS)]:
                self.check_none(claim)
        for word in ["sum", "sumless"]:
            for claim in [(word,), (word, [1, 0, 1], [1, 0, 1]), (word, 1, 0, 1)]:
                self.check_none(claim)

    def test_other_words(self):
        for word in [
            "", "Own", "own ", "owns", "word", "room", "distance", None, 1, True, [], ["own"], ("own",), PAIRS, {},
        ]:
            self.check_none((word, PAIRS))
            self.check_none((word, PAIRS, PAIRS))

    def test_rooms_that_are_none(self):
        for value in NO_ROOMS:
            for word in ["still", "odd", "own", "bent", "fours", "uneven"]:
                self.check_none((word, value))
            for word in ["holds", "spills", "alike", "unlike", "beside", "apart"]:
                self.check_none((word, PAIRS, value))
                self.check_none((word, value, PAIRS))
            self.check_none(("has", value, 3))

    def test_words_that_are_none(self):
        for word in ["has", "lacks"]:
            for value in NO_WORDS + [16, 17, 31, PAIRS]:
                self.check_none((word, PAIRS, value))
            self.check_none((word, Room(1, []), 2))
            self.assertIs(is_claim((word, PAIRS, 15)), True)

    def test_unlike_places(self):
        for word in ["holds", "spills", "alike", "unlike", "beside", "apart"]:
            self.check_none((word, PAIRS, EIGHT))
            self.check_none((word, EIGHT, PAIRS))
            self.check_none((word, Room(2, []), Room(3, [])))

    def test_alike_up_to_12_places(self):
        for word in ["alike", "unlike"]:
            for places in range(1, 25):
                claim = (word, Room(places, [1]), Room(places, [1]))
                if places > 12:
                    self.check_none(claim)
                else:
                    self.assertIs(self.truth(is_claim, value=claim), True)

    def test_rooms_that_are_not_own(self):
        for word in ["beside", "apart"]:
            for bad in [Room(4, []), Room(4, [3]), Room(4, units(4)), Room(4, [3, 6])]:
                self.check_none((word, PAIRS, bad))
                self.check_none((word, bad, PAIRS))
                self.check_none((word, bad, bad))
            self.assertIs(is_claim((word, PAIRS, PAIRS)), True)

    def test_numbers_that_are_none(self):
        for word in ["sum", "sumless"]:
            for value in NO_NUMBER_LISTS:
                self.check_none((word, value))
            for places in range(2, 25, 2):
                self.assertIs(is_claim((word, [0] * (places + 1))), True)
                self.assertIs(is_claim((word, (0,) * (places + 1))), True)

    def test_few_rooms(self):
        for room in few_rooms():
            self.assertIs(is_claim(("still", room)), True)
            self.assertIs(is_claim(("alike", room, room)), True)
            self.assertIs(is_claim(("holds", room, beside(room, Room(1, [])))), False)


if __name__ == "__main__":
    unittest.main()
