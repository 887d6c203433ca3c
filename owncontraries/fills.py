"""Fill-ups of still rooms: the rooms that are their own contrary and hold them."""

from owncontraries.contraries import check_still, contrary, lacking_word
from owncontraries.errors import TooMany
from owncontraries.rooms import Room, by_bases, highest, plain_basis, rest_of, room_with, sums_of
from owncontraries.words import all_on, are_even

MOST_ROOMS = 135


def with_all(room):
    """The room with the word of all places put in."""
    return room_with(room, all_on(room.places))


def lacking_dimensions(room):
    """How many dimensions a still room with the word of all places lacks of a fill-up's, for even places."""
    return room.places // 2 - room.dimension


def filled(room):
    """A fill-up of the still room; None if it has an odd number of places."""
    check_still(room)
    if room.places % 2 == 1:
        return None
    full = with_all(room)
    # the word of all places is in it, so what is even to all its words is even to itself, too
    for _ in range(lacking_dimensions(full)):
        full = room_with(full, lacking_word(full))
    return full


def fill_count(room):
    """How many fill-ups the still room has."""
    check_still(room)
    if room.places % 2 == 1:
        return 0
    count = 1
    for step in range(lacking_dimensions(with_all(room))):
        count = count * ((2 << step) + 1)
    return count


def rests_over(room):
    """What words of the contrary leave by the plain basis of a still room: all such rests but 0, sorted."""
    basis = room.basis()
    rests = [rest_of(word, basis) for word in contrary(room).basis()]
    return [rest for rest in sums_of(plain_basis(rests)) if rest > 0]


def goes_on(basis, word):
    """Whether a plain basis of words even to one another, with the word behind it, is one again."""
    return all([word < base and not base & highest(word) and are_even(word, base) for base in basis])


def even_bases(words, dimension):
    """All plain bases of so many of these words that are even to one another."""
    bases = [[]]
    for _ in range(dimension):
        bases = [basis + [word] for basis in bases for word in words if goes_on(basis, word)]
    return bases


def fills(room):
    """The list of all fill-ups of the still room, sorted by their plain bases."""
    count = fill_count(room)
    if count == 0:
        return []
    if count > MOST_ROOMS:
        raise TooMany("rooms", MOST_ROOMS)
    start = with_all(room)
    # a fill-up is told by its rests over the start, and these by their plain basis: so each comes just once
    bases = even_bases(rests_over(start), lacking_dimensions(start))
    return by_bases([Room(room.places, start.basis() + basis) for basis in bases])
