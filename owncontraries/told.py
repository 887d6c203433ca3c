"""The kinds of own rooms of up to 16 places, their names, and how many rooms lack."""

from math import factorial

from owncontraries.basics import is_list
from owncontraries.contraries import check_own
from owncontraries.errors import InvalidPlaces, InvalidRooms, TooMany, UnlikePlaces
from owncontraries.kinds import fours_kinds, pairs
from owncontraries.numbers import own_number
from owncontraries.rooms import Room
from owncontraries.sums import check_even_places

MOST_TOLD_PLACES = 16

# what an own room has beside its pairs: the name, the places, words that make it, its own exchanges
RESTS = (
    ("", 0, (), 1),
    ("d12", 12, (15, 60, 240, 960, 3840, 1365), 23040),
    ("d16", 16, (15, 60, 240, 960, 3840, 15360, 61440, 21845), 5160960),
    # the last two words: in the one half a pair of places, in the other one a place of each pair
    ("d8+d8", 16, (15, 60, 240, 3840, 15360, 61440, 21763, 853), 73728),
    ("e7+e7", 14, (15, 51, 85, 1920, 6528, 10880, 16383), 56448),
    ("e8", 8, (15, 51, 85, 255), 1344),
    ("e8+e8", 16, (15, 51, 85, 255, 3840, 13056, 21760, 65280), 3612672),
)


def name_of(many, kinds):
    """The name of a room with so many pairs and these kinds of fours, sorted."""
    return "+".join(["2"] * many + kinds)


def told_kind(places, rest):
    """The kind of so many places with this rest: the name, a room of the kind, and how many own exchanges it has."""
    name, size, words, exchanges = rest
    many = (places - size) // 2
    pair_words = [3 << (size + 2 * at) for at in range(many)]
    room = Room(places, list(words) + pair_words)
    return (name_of(many, [name] if size > 0 else []), room, (factorial(many) << many) * exchanges)


def told_kinds(places):
    """The list of the kinds of own rooms of so many places, sorted by name."""
    check_even_places(places)
    if places > MOST_TOLD_PLACES:
        raise InvalidPlaces(places)
    named = {}
    for rest in RESTS:
        if rest[1] <= places:
            kind = told_kind(places, rest)
            named[kind[0]] = kind
    return [named[name] for name in sorted(list(named))]


def kind_of(room):
    """The name of the own room."""
    check_own(room)
    if room.places > MOST_TOLD_PLACES:
        raise TooMany("places", MOST_TOLD_PLACES)
    return name_of(len(pairs(room)), [kind for kind, spots in fours_kinds(room)])


def check_rooms(rooms):
    """Raise InvalidRooms unless this is a list of one or more Rooms."""
    if not is_list(rooms) or len(rooms) == 0:
        raise InvalidRooms(None)
    for position, room in enumerate(rooms):
        if not isinstance(room, Room):
            raise InvalidRooms(position)


def check_own_rooms(rooms):
    """Raise an error unless this is a list of one or more own Rooms of as many places."""
    check_rooms(rooms)
    if any([room.places != rooms[0].places for room in rooms]):
        raise UnlikePlaces()
    for room in rooms:
        check_own(room)


def lacking(rooms):
    """How many own rooms are of none of the kinds of these rooms."""
    check_own_rooms(rooms)
    places = rooms[0].places
    names = [kind_of(room) for room in rooms]
    there = [factorial(places) // exchanges for name, _, exchanges in told_kinds(places) if name in names]
    return own_number(places) - sum(there)
