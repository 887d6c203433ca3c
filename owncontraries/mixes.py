"""Rooms made of rooms: sums, common words, rooms beside one another, shortened, cut and exchanged ones."""

from owncontraries.errors import InvalidSequence, TooMany
from owncontraries.rooms import Room, check_room, check_two, plain_basis
from owncontraries.words import MOST_PLACES, check_word, is_sequence, places_of, word_of


def lower_room(places, doubled):
    """The room of those sums of words of twice so many places that are off at all upper places."""
    # a highest place is on in one word of a plain basis alone, so a sum that is off above has no word from above
    return Room(places, [word for word in plain_basis(doubled) if word < (1 << places)])


def sum_room(room, other):
    """The room of all sums of a word of the one room and a word of the other one."""
    check_two(room, other)
    return Room(room.places, room.basis() + other.basis())


def common_room(room, other):
    """The room of the words that are in both rooms."""
    check_two(room, other)
    # a word of the first room stays below where a word of the other one takes it away above
    doubled = [(word << room.places) | word for word in room.basis()]
    return lower_room(room.places, doubled + [word << room.places for word in other.basis()])


def lies_in(room, other):
    """Whether all words of the first room are in the other one."""
    check_two(room, other)
    return all([other.has(word) for word in room.basis()])


def lacking_base(room, other):
    """The first word of the other room's plain basis that the room lacks; there is one."""
    return [base for base in other.basis() if not room.has(base)][0]


def beside(room, other):
    """The room with the first room on the first places and the other one on those behind them."""
    check_room(room)
    check_room(other)
    places = room.places + other.places
    if places > MOST_PLACES:
        raise TooMany("places", MOST_PLACES)
    return Room(places, room.basis() + [word << room.places for word in other.basis()])


def shortened(room, word):
    """The room of those words of a room that are off wherever the word is off."""
    check_room(room)
    check_word(word, room.places)
    # above stands what must be off
    return lower_room(room.places, [((base & ~word) << room.places) | base for base in room.basis()])


def cut(room, word):
    """The room of what each word of a room has on where the word is on."""
    check_room(room)
    check_word(word, room.places)
    return Room(room.places, [base & word for base in room.basis()])


def led(word, sequence):
    """The word of the places to which a sequence leads the places of the word."""
    return word_of([sequence[place] for place in places_of(word)])


def exchanged(room, sequence):
    """The room of the words to which a sequence of the room leads its words."""
    check_room(room)
    if not is_sequence(room.places, sequence):
        raise InvalidSequence(sequence)
    return Room(room.places, [led(base, sequence) for base in room.basis()])
