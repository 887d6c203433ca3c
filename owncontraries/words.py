"""Words: INTEGERS whose powers of 2 tell which places are on."""

from owncontraries.basics import is_count, is_integer, is_list
from owncontraries.errors import InvalidPlaces, InvalidSpots, InvalidWord, NotEights

MOST_PLACES = 24


def is_places(value):
    """Whether the value is a number of places."""
    return is_integer(value) and 1 <= value <= MOST_PLACES


def check_places(places):
    """Raise InvalidPlaces unless this is a number of places."""
    if not is_places(places):
        raise InvalidPlaces(places)


def check_eights(places):
    """Raise NotEights unless 8 divides a number of places."""
    if places % 8 > 0:
        raise NotEights()


def is_word(places, value):
    """Whether the value is a word of so many places."""
    check_places(places)
    return is_count(value) and value < (1 << places)


def check_word(word, places=MOST_PLACES):
    """Raise InvalidWord unless this is a word of so many places."""
    if not is_word(places, word):
        raise InvalidWord(word)


def weight(word):
    """How many places are on in the word."""
    check_word(word)
    left = word
    count = 0
    while left > 0:
        # a number and the one below it share all powers of 2 but the least ones, so this takes off one place
        left = left & (left - 1)
        count += 1
    return count


def are_even(word, other):
    """Whether the two words meet in an even number of places."""
    check_word(word)
    check_word(other)
    return weight(word & other) % 2 == 0


def places_of(word):
    """The rising list of the places that are on in the word."""
    check_word(word)
    return [place for place in range(MOST_PLACES) if (word >> place) & 1]


def all_on(places):
    """The word of all places, in which each of so many places is on."""
    return (1 << places) - 1


def are_spots(places, value):
    """Whether the value is a list of unlike places, each below this number of places."""
    if not is_list(value) or not all([is_count(spot) and spot < places for spot in value]):
        return False
    return len(set(value)) == len(value)


def is_sequence(places, value):
    """Whether the value is a list of so many places, each once, in some sequence."""
    return are_spots(places, value) and len(value) == places


def word_of(spots):
    """The word in which just these places are on."""
    if not are_spots(MOST_PLACES, spots):
        raise InvalidSpots(spots)
    return sum([1 << spot for spot in spots])
