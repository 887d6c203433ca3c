"""Rooms that several tests go through, and plain ways to reckon with words."""

import itertools
import random

from owncontraries.rooms import Room

# what makes Golay's room of 24 places: one word of weight 7, place for place further on, with the last place on
GOLAY_WORDS = [(0xC75 << step) | (1 << 23) for step in range(12)]
EIGHT_WORDS = [15, 51, 85, 255]


def ons(word):
    """How many places are on in the word."""
    return bin(word).count("1")


def odd(word, other):
    """Whether the words meet oddly."""
    return ons(word & other) % 2 == 1


def all_sums(words):
    """All sums of these words, made one after another."""
    sums = {0}
    for word in words:
        sums = sums | {word ^ other for other in sums}
    return sorted(sums)


def units(places):
    """The words of so many places with just one place on."""
    return [2 ** place for place in range(places)]


def pair_words(places):
    """The words of places 0 and 1, 2 and 3, and so on."""
    return [3 << place for place in range(0, places - 1, 2)]


def even_words(places):
    """Words that make all words of even weight."""
    return [1 | unit for unit in units(places)[1:]]


def all_word_lists(places):
    """For each room of so many places a shortest list of words that makes it."""
    found = {(0,): []}
    level = [[]]
    while level:
        larger = []
        for words in level:
            for word in range(2 ** places):
                key = tuple(all_sums(words + [word]))
                if key not in found:
                    found[key] = words + [word]
                    larger.append(words + [word])
        level = larger
    return list(found.values())


def all_rooms(places):
    """Each room of so many places once."""
    return [Room(places, words) for words in all_word_lists(places)]


def drawn_rooms(seed, counts, most=None):
    """Rooms of each of these numbers of places, of drawn words, as many as the places or up to so many."""
    chance = random.Random(seed)
    for places in counts:
        for many in range((most or places) + 1):
            yield Room(places, [chance.randrange(2 ** places) for _ in range(many)])


def few_rooms():
    """All rooms of up to four places, and drawn ones of five to eight."""
    for places in [1, 2, 3, 4]:
        yield from all_rooms(places)
    yield from drawn_rooms(21, [5, 6, 7, 8])


def room_pairs():
    """Pairs of rooms of as many places: all of up to three places, drawn ones of four to eight."""
    for places in [1, 2, 3]:
        yield from itertools.product(all_rooms(places), repeat=2)
    chance = random.Random(34)
    for places in [4, 5, 6, 7, 8]:
        rooms = list(drawn_rooms(places, [places])) + [Room(places, []), Room(places, units(places))]
        for _ in range(60):
            yield chance.choice(rooms), chance.choice(rooms)


def large_rooms():
    """Rooms of 23 and 24 places, of all dimensions."""
    for places in [23, 24]:
        yield Room(places, [])
        yield Room(places, units(places))
        yield Room(places, even_words(places))
        yield Room(places, [2 ** places - 1])
        yield from drawn_rooms(places, [places])
    yield Room(24, GOLAY_WORDS)


def own_word_sets(places):
    """The sets of the words of all own rooms of so many places, put together from word to word."""
    level = {frozenset([0])}
    for _ in range(places // 2):
        larger = set()
        for words in level:
            for word in range(1, 2 ** places):
                if word not in words and not odd(word, word) and not any(odd(word, other) for other in words):
                    larger.add(words | frozenset(word ^ other for other in words))
        level = larger
    return sorted(level, key=sorted)


def own_rooms_of(places):
    """All own rooms of so many places."""
    return [Room(places, sorted(words)) for words in own_word_sets(places)]


def still_rooms(seed, counts, divisor=2):
    """Drawn still rooms of these numbers of places, up to ten, of each dimension that they can have.

    The divisor, 2 or 4, divides the weight of each of their words.
    """
    chance = random.Random(seed)
    for places in counts:
        words = []
        fitting = [word for word in range(2 ** places) if ons(word) % divisor == 0]
        while True:
            yield Room(places, words)
            sums = all_sums(words)
            fitting = [word for word in fitting if word not in sums and not any(odd(word, other) for other in words)]
            if not fitting:
                break
            words = words + [chance.choice(fitting)]


def stepped(words, word):
    """Words that make the neighbour by a word of even weight of the own room that the words make, or this room."""
    odd_ones = [one for one in words if odd(one, word)]
    if not odd_ones:
        return words
    return [one for one in words if not odd(one, word)] + [one ^ odd_ones[0] for one in odd_ones[1:]] + [word]


def drawn_own_rooms(seed, counts):
    """Drawn own rooms of these numbers of places."""
    chance = random.Random(seed)
    for places in counts:
        words = pair_words(places)
        for _ in range(places):
            words = stepped(words, even_one(chance.randrange(2 ** places)))
        yield Room(places, words)


def even_one(word):
    """The word, or the one with place 0 the other way, of even weight."""
    return word ^ odd(word, word)


def drawn_fours_rooms(seed, counts):
    """Drawn own rooms by fours of these numbers of places, which 8 divides."""
    chance = random.Random(seed)
    for places in counts:
        words = [word << place for place in range(0, places, 8) for word in EIGHT_WORDS]
        # each step leads to the other family
        for _ in range(places + chance.randrange(2)):
            word = sum(2 ** place for place in chance.sample(range(places), chance.randrange(4, places, 4)))
            words = stepped(words, word)
        yield Room(places, words)


def lot_words(places):
    """Words of an own room of so many places, which 4 divides: fours of pairs, and one place of each pair."""
    return [15 << place for place in range(0, places - 3, 2)] + [sum(units(places)[::2])]


def own_rooms():
    """Own rooms of 2 to 24 places."""
    for places in range(2, 25, 2):
        yield Room(places, pair_words(places))
    for places in range(4, 25, 4):
        yield Room(places, lot_words(places))
    yield Room(8, EIGHT_WORDS)
    yield Room(16, EIGHT_WORDS + [word << 8 for word in EIGHT_WORDS])
    yield Room(14, [3] + [word << 2 for word in lot_words(12)])
    yield Room(24, GOLAY_WORDS)


def row_by_words(room):
    """The row of a room, its words gone through one by one."""
    weights = [ons(word) for word in all_sums(room.basis())]
    return [weights.count(weight) for weight in range(room.places + 1)]


def drawn_rows():
    """Rows of 1 to 24 places of drawn numbers."""
    chance = random.Random(33)
    for places in range(1, 25):
        for dimension in range(places + 1):
            numbers = [1] + [0] * places
            for _ in range(min(2 ** dimension - 1, 40)):
                numbers[chance.randrange(1, places + 1)] += 1
            numbers[chance.randrange(1, places + 1)] += 2 ** dimension - sum(numbers)
            yield numbers
