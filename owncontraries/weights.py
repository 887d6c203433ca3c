"""How many words of a room have which weight, and the words of the least weight."""

from owncontraries.contraries import contrary
from owncontraries.errors import TooMany
from owncontraries.rooms import check_room, sums_of
from owncontraries.tables import changed
from owncontraries.words import weight

MOST_LEAST_WORDS = 255


def counted_weights(places, words):
    """How many of the words, each of so many places, have the weight 0, 1, .."""
    numbers = [0] * (places + 1)
    for word in words:
        numbers[weight(word)] += 1
    return numbers


def counted(room):
    """The row of the room, its words counted one by one."""
    return counted_weights(room.places, sums_of(room.basis()))


def row(room):
    """The row of the room: at each place how many of its words have this weight."""
    check_room(room)
    # of a room and its contrary one has at most 2 to the 12 words
    if 2 * room.dimension > room.places:
        return changed(counted(contrary(room)))
    return counted(room)


def least_of(numbers):
    """The least weight but 0 that a row has words of; None if there is none."""
    for place, number in enumerate(numbers):
        if place > 0 and number > 0:
            return place
    return None


def least(room):
    """The least weight of the room's words but 0; None if 0 is its only word."""
    return least_of(row(room))


def sums_of_few(basis, most):
    """All sums of at most so many words of a basis, none of them twice."""
    sums = [(0, 0)]
    for base in basis:
        sums = sums + [(word ^ base, many + 1) for word, many in sums if many < most]
    return [word for word, many in sums]


def words_of_weight(room, at):
    """The sorted list of the room's words of this weight."""
    # the highest place of each basis word in a sum is on in it, so a word is a sum of no more than its weight
    return sorted([word for word in sums_of_few(room.basis(), at) if weight(word) == at])


def least_words(room):
    """The sorted list of the room's words of the least weight; [] if 0 is its only word."""
    numbers = row(room)
    lowest = least_of(numbers)
    if lowest is None:
        return []
    if numbers[lowest] > MOST_LEAST_WORDS:
        raise TooMany("words", MOST_LEAST_WORDS)
    return words_of_weight(room, lowest)
