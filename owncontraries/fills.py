"""Fill-ups of still rooms: the rooms that are their own contrary and hold them."""

from owncontraries.contraries import check_still, contrary, lacking_word
from owncontraries.errors import TooMany
from owncontraries.rooms import Room, by_bases, highest, plain_basis, rest_of, room_with, sums_of
from owncontraries.words import all_on, are_even

MOST_ROOMS = 135


def with_all(room):
    """The room with the word of all places put in."""
    return room_with(room, all_on(room.places))


def lacking_dimensions(room):
    """How many dimensions a still room with the word of all places lacks of a fill-up's, for even places."""
    return room.places // 2 - room.dimension


def filled(room):
    """A fill-up of the still room; None if it has an odd number of places."""
    check_still(room)
    if room.places % 2 == 1:
        return None
    full = with_all(room)
    # the word of all places is in it, so what is even to all its words is even to itself, too
    for _ in range(lacking_dimensions(full)):
        full = room_with(full, lacking_word(full))
    return full


def product_of(first, many):
    """The product of so many numbers: a first one, twice it, four times it, and so on, 1 put to each."""
    result = 1
    for step in range(many):
        result = result * ((first << step) + 1)
    return result


def fill_count(room):
    """How many fill-ups the still room has."""
    check_still(room)
    if room.places % 2 == 1:
        return 0
    return product_of(2, lacking_dimensions(with_all(room)))


def rests_basis(room, larger):
    """The plain basis of what words of a larger room leave by the plain basis of a room."""
    basis = room.basis()
    return plain_basis([rest_of(word, basis) for word in larger.basis()])


def rests_over(room, larger):
    """What words of a larger room leave by the plain basis of a room: all such rests but 0, sorted."""
    return [rest for rest in sums_of(rests_basis(room, larger)) if rest > 0]


def goes_on(basis, word):
    """Whether a plain basis of words even to one another, with the word behind it, is one again."""
    return all([word < base and not base & highest(word) and are_even(word, base) for base in basis])


def even_bases(words, dimension):
    """All plain bases of so many of these words that are even to one another."""
    bases = [[]]
    for _ in range(dimension):
        bases = [basis + [word] for basis in bases for word in words if goes_on(basis, word)]
    return bases


def rooms_over(start, rests):
    """The own rooms that a still room with the word of all places makes with some of these rests by it, sorted."""
    # an own room is told by its rests, and these by their plain basis: so each comes just once
    bases = even_bases(rests, lacking_dimensions(start))
    return by_bases([Room(start.places, start.basis() + basis) for basis in bases])


def fills(room):
    """The list of all fill-ups of the still room, sorted by their plain bases."""
    count = fill_count(room)
    if count == 0:
        return []
    if count > MOST_ROOMS:
        raise TooMany("rooms", MOST_ROOMS)
    start = with_all(room)
    return rooms_over(start, rests_over(start, contrary(start)))
