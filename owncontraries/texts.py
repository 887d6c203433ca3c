"""The written forms of words, rooms, rows, numbers and sequences."""

from owncontraries.basics import are_integers
from owncontraries.errors import InvalidSort, InvalidThing
from owncontraries.rooms import Room
from owncontraries.signs import numbers_text, signs_of
from owncontraries.tables import is_row
from owncontraries.words import MOST_PLACES, is_places, is_sequence, is_word

SORTS = ("word", "room", "row", "numbers", "sequence")
MOST_NUMBERS = 25


def sorts():
    """The list of the words of the sorts."""
    return list(SORTS)


def check_sort(sort):
    """Raise InvalidSort unless this is the word of a sort."""
    if sort not in SORTS:
        raise InvalidSort(sort)


def is_placed_word(value):
    """Whether the value is a tuple of a number of places and a word of so many places."""
    if not isinstance(value, tuple) or len(value) != 2:
        return False
    places, word = value
    return is_places(places) and is_word(places, word)


def are_some_integers(value):
    """Whether the value is a list of INTEGERS, one at least and not too many."""
    return are_integers(value) and 1 <= len(value) <= MOST_NUMBERS


def is_some_sequence(value):
    """Whether the value is a list of some COUNTS, not too many, each below their number just once."""
    return are_integers(value) and 1 <= len(value) <= MOST_PLACES and is_sequence(len(value), value)


def is_of(sort, value):
    """Whether the value is one of the sort."""
    check_sort(sort)
    if sort == "word":
        return is_placed_word(value)
    if sort == "room":
        return isinstance(value, Room)
    if sort == "row":
        return is_row(value)
    if sort == "numbers":
        return are_some_integers(value)
    return is_some_sequence(value)


def line_of(word, text):
    """The line of a word and what stands behind it."""
    return word + " " + text + "\n"


def room_lines(room):
    """The written form of a room."""
    bases = [line_of("basis", signs_of(room.places, base)) for base in room.basis()]
    return line_of("room", str(room.places)) + "".join(bases)


def written(sort, value):
    """The written form of a value of the sort."""
    if not is_of(sort, value):
        raise InvalidThing(value)
    if sort == "word":
        places, word = value
        return line_of(sort, signs_of(places, word))
    if sort == "room":
        return room_lines(value)
    return line_of(sort, numbers_text(value))
