"""Rooms: lots of words with 0 and all their sums, kept as their plain basis."""

from owncontraries.basics import is_list
from owncontraries.errors import InvalidRoom, InvalidWords, TooMany, UnlikePlaces
from owncontraries.words import check_places, check_word, is_word

MOST_WORDS = 48
MOST_DIMENSION = 8


def highest(word):
    """The word in which only the highest place is on that is on in this word, which is not 0."""
    return 1 << (word.bit_length() - 1)


def rest_of(word, basis):
    """What is left of a word when each word of a plain basis whose highest place is on in it is added."""
    rest = word
    for base in basis:
        if rest & highest(base):
            rest = rest ^ base
    return rest


def put_in(rest, basis):
    """The plain basis of the words of a plain basis and a rest by it that is not 0."""
    top = highest(rest)
    # the rest is off at the highest places of the basis, so adding it leaves these as they are
    cleared = [base ^ rest if base & top else base for base in basis]
    return sorted(cleared + [rest], reverse=True)


def plain_basis(words):
    """The plain basis of the room that the words make."""
    basis = []
    for word in words:
        rest = rest_of(word, basis)
        if rest > 0:
            basis = put_in(rest, basis)
    return basis


def sums_of(basis):
    """The sorted list of all sums of the words of a basis."""
    sums = [0]
    for base in basis:
        sums = sums + [word ^ base for word in sums]
    return sorted(sums)


def check_words(places, words):
    """Raise InvalidWords unless this is a list of words of so many places, not more than are allowed."""
    if not is_list(words) or len(words) > MOST_WORDS:
        raise InvalidWords(None)
    for position, word in enumerate(words):
        if not is_word(places, word):
            raise InvalidWords(position)


class Room:
    """The room of so many places that the words make; it never changes."""

    def __init__(self, places, words):
        check_places(places)
        check_words(places, words)
        self._places = places
        self._basis = plain_basis(words)

    @property
    def places(self):
        """The number of its places."""
        return self._places

    @property
    def dimension(self):
        """How many words its plain basis has."""
        return len(self._basis)

    def basis(self):
        """Its plain basis, a new list."""
        return list(self._basis)

    def has(self, word):
        """Whether the word, one of its places, is in it."""
        check_word(word, self._places)
        return rest_of(word, self._basis) == 0

    def words(self):
        """The sorted list of its words."""
        if len(self._basis) > MOST_DIMENSION:
            raise TooMany("dimension", MOST_DIMENSION)
        return sums_of(self._basis)

    def __eq__(self, other):
        # the plain basis is single, so equal rooms are just those with equal plain bases
        return isinstance(other, Room) and self._places == other._places and self._basis == other._basis

    def __repr__(self):
        return f"Room({self._places}, {self._basis})"


def check_room(room):
    """Raise InvalidRoom unless this is a Room."""
    if not isinstance(room, Room):
        raise InvalidRoom(room)


def check_two(room, other):
    """Raise an error unless these are two Rooms of as many places."""
    check_room(room)
    check_room(other)
    if room.places != other.places:
        raise UnlikePlaces()


def is_word_of(room, value):
    """Whether the value is a word of the room."""
    return is_word(room.places, value) and room.has(value)


def room_with(room, word):
    """The room that the words of a room and one word more make."""
    return Room(room.places, room.basis() + [word])


def by_bases(rooms):
    """The rooms sorted by their plain bases, a new list."""
    return sorted(rooms, key=lambda room: room.basis())
