"""The parts of a room, lists of places on which it falls apart, and the rooms on some of its places alone."""

from owncontraries.errors import InvalidSpots
from owncontraries.mixes import shortened
from owncontraries.rooms import Room, check_room
from owncontraries.words import are_spots, places_of, word_of


def put_together(lots, word):
    """Lots of places, told as words, those that meet the word put together to one."""
    met = [lot for lot in lots if lot & word]
    return [lot for lot in lots if not lot & word] + [sum(met)]


def parts(room):
    """The sorted list of the parts of the room, each a rising list of places."""
    check_room(room)
    lots = [1 << place for place in range(room.places)]
    # the plain bases of rooms beside one another are the plain basis of all, so each basis word is on in one part
    for base in room.basis():
        lots = put_together(lots, base)
    return sorted([places_of(lot) for lot in lots])


def told_by(word, spots):
    """The word of so many places as there are spots: each place is on in it if its spot is on in the word."""
    return sum([((word >> spot) & 1) << place for place, spot in enumerate(spots)])


def part_room(room, spots):
    """The part room of these places, in their sequence."""
    check_room(room)
    if not are_spots(room.places, spots) or len(spots) == 0:
        raise InvalidSpots(spots)
    inside = shortened(room, word_of(spots))
    return Room(len(spots), [told_by(base, spots) for base in inside.basis()])
