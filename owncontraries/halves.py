"""Lists of INTEGERS whose odd ones stand at the places of a word of a room, and how many of them have which size."""

from owncontraries.basics import are_integers, is_count
from owncontraries.errors import InvalidSize
from owncontraries.rooms import check_room
from owncontraries.sums import added_up, multiplied
from owncontraries.weights import row
from owncontraries.words import word_of

MOST_SIZE = 24


def check_size(size):
    """Raise InvalidSize unless this is a COUNT that is not too large."""
    if not is_count(size) or size > MOST_SIZE:
        raise InvalidSize(size)


def square_ways(first, most):
    """In how many ways each size up to the most is the square of first, first + 2, .., with both signs, 0 once."""
    ways = [0] * (most + 1)
    for root in range(first, most + 1, 2):
        if root * root <= most:
            ways[root * root] = 1 if root == 0 else 2
    return ways


def powers_up_to(ways, many, most):
    """For 0, 1, .., so many squares in how many ways each size up to the most is their sum."""
    powers = [[1] + [0] * most]
    for _ in range(many):
        powers.append(multiplied(powers[-1], ways)[:most + 1])
    return powers


def counted_by(numbers, most):
    """How many lists have each size up to the most, counted by the row of their room."""
    places = len(numbers) - 1
    odd = powers_up_to(square_ways(1, most), places, most)
    even = powers_up_to(square_ways(0, most), places, most)
    terms = [multiplied(odd[at], even[places - at])[:most + 1] for at in range(places + 1)]
    return added_up(terms, numbers)


def vector_row(room, most):
    """How many lists of the room have the size 0, 1, .., up to the most."""
    check_room(room)
    check_size(most)
    return counted_by(row(room), most)


def vectors(room, size):
    """How many lists of the room have this size."""
    check_room(room)
    check_size(size)
    return counted_by(row(room), size)[size]


def is_vector(room, value):
    """Whether the value is a list of INTEGERS whose odd ones stand at the places of a word of the room."""
    check_room(room)
    if not are_integers(value) or len(value) != room.places:
        return False
    return room.has(word_of([place for place, number in enumerate(value) if number % 2 == 1]))
