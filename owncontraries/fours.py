"""Rooms by fours: 4 divides the weight of each of their words."""

from owncontraries.contraries import check_still, contrary, odd_pair
from owncontraries.errors import NotByFours, TooMany
from owncontraries.fills import lacking_dimensions, product_of, rests_basis, rests_over, rooms_over, with_all
from owncontraries.rooms import Room, check_room, room_with
from owncontraries.weights import sums_of_few
from owncontraries.words import weight

MOST_FOURS_ROOMS = 30


def is_uneven(word):
    """Whether 4 does not divide the weight of a word."""
    return weight(word) % 4 > 0


def why_not_fours(room):
    """A word of the room whose weight 4 does not divide; None if it is by fours."""
    check_room(room)
    basis = room.basis()
    for word in basis:
        if is_uneven(word):
            return word
    pair = odd_pair(basis)
    if pair is None:
        return None
    # both weights are multiples of 4, and twice an odd meeting is none
    word, other = pair
    return word ^ other


def is_by_fours(room):
    """Whether 4 divides the weight of each word of the room."""
    return why_not_fours(room) is None


def check_by_fours(room):
    """Raise an error unless this is a Room by fours."""
    if not is_by_fours(room):
        raise NotByFours()


def fours_half(room):
    """The room of those words of the still room whose weights 4 divides."""
    check_still(room)
    basis = room.basis()
    uneven = [word for word in basis if is_uneven(word)]
    # the sum of two uneven words of a still room is none
    sums = [word ^ uneven[0] for word in uneven]
    return Room(room.places, [word for word in basis if not is_uneven(word)] + sums)


def fours_lacking(room):
    """A word that an own room by fours may have, but this room by fours with the word of all places has not."""
    rests = rests_basis(room, contrary(room))
    # of uneven rests two that are even to one another, or three that meet oddly, have a sum that is not uneven
    return [word for word in sums_of_few(rests, 3) if word > 0 and not is_uneven(word)][0]


def fours_filled(room):
    """An own room by fours that holds the room by fours; None if 8 does not divide the places."""
    check_by_fours(room)
    if room.places % 8 > 0:
        return None
    full = with_all(room)
    for _ in range(lacking_dimensions(full)):
        full = room_with(full, fours_lacking(full))
    return full


def fours_count(room):
    """How many own rooms by fours hold the room by fours."""
    check_by_fours(room)
    if room.places % 8 > 0:
        return 0
    return product_of(1, lacking_dimensions(with_all(room)))


def fours_fills(room):
    """The list of all own rooms by fours that hold the room by fours, sorted by their plain bases."""
    count = fours_count(room)
    if count == 0:
        return []
    if count > MOST_FOURS_ROOMS:
        raise TooMany("rooms", MOST_FOURS_ROOMS)
    start = with_all(room)
    return rooms_over(start, [rest for rest in rests_over(start, contrary(start)) if not is_uneven(rest)])
