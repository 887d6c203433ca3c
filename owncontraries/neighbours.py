"""Neighbours of own rooms: own rooms that have just a half in common with them."""

from owncontraries.contraries import check_own, contrary
from owncontraries.errors import OddWeight, TooMany, WordWithin
from owncontraries.fills import rests_over
from owncontraries.mixes import common_room
from owncontraries.rooms import Room, by_bases, check_room, check_two, room_with
from owncontraries.words import all_on, are_even, check_word, weight

MOST_NEIGHBOUR_PLACES = 14


def check_own_two(room, other):
    """Raise an error unless these are two own Rooms of as many places."""
    check_two(room, other)
    check_own(room)
    check_own(other)


def apart(room, other):
    """How many dimensions the common room of two own rooms lacks of theirs."""
    return room.dimension - common_room(room, other).dimension


def over_half(room, word):
    """The room of those words of a room that are even to a word, and of their sums with it."""
    half = common_room(room, contrary(Room(room.places, [word])))
    return room_with(half, word)


def neighbour(room, word):
    """The neighbour of the own room by the word, which is of even weight and not in the room."""
    check_room(room)
    check_word(word, room.places)
    check_own(room)
    if weight(word) % 2 == 1:
        raise OddWeight()
    if room.has(word):
        raise WordWithin()
    return over_half(room, word)


def are_neighbours(room, other):
    """Whether the two own rooms are neighbours."""
    check_own_two(room, other)
    return apart(room, other) == 1


def two_over(room, word):
    """The two neighbours of an own room over the half of it whose words are even to a word of even weight."""
    odd_ones = [base for base in room.basis() if not are_even(base, word)]
    # an odd one put to the word leaves the half as it is, but leads to the other room over it
    return [over_half(room, word), over_half(room, word ^ odd_ones[0])]


def neighbours(room):
    """The list of all neighbours of the own room, sorted by their plain bases."""
    check_own(room)
    if room.places > MOST_NEIGHBOUR_PLACES:
        raise TooMany("places", MOST_NEIGHBOUR_PLACES)
    even_words = contrary(Room(room.places, [all_on(room.places)]))
    # unlike rests are even to unlike halves, and each half with the word of all places has a rest
    found = []
    for rest in rests_over(room, even_words):
        found.extend(two_over(room, rest))
    return by_bases(found)
