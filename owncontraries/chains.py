"""Distances of own rooms, chains of neighbours between them, and the two families of those by fours."""

from owncontraries.basics import is_list
from owncontraries.contraries import is_own
from owncontraries.fours import check_by_fours
from owncontraries.mixes import lacking_base
from owncontraries.neighbours import apart, check_own_two, over_half
from owncontraries.rooms import Room

MOST_CHAIN_ROOMS = 100


def distance(room, other):
    """How many dimensions the common room of the two own rooms lacks."""
    check_own_two(room, other)
    return apart(room, other)


def step_towards(room, other):
    """A neighbour of an own room that has one dimension more in common with another own room, unlike it."""
    # all that both rooms have is even to the other one's word, so it stays
    return over_half(room, lacking_base(room, other))


def chain(room, other):
    """A chain from the one own room to the other one, as short as can be."""
    check_own_two(room, other)
    rooms = [room]
    for _ in range(apart(room, other)):
        rooms.append(step_towards(rooms[-1], other))
    return rooms


def is_own_of(places, value):
    """Whether the value is an own Room of so many places."""
    return isinstance(value, Room) and value.places == places and is_own(value)


def is_chain(room, other, value):
    """Whether the value is a chain from the one own room to the other one."""
    check_own_two(room, other)
    if not is_list(value) or not 1 <= len(value) <= MOST_CHAIN_ROOMS:
        return False
    if not all([is_own_of(room.places, one) for one in value]):
        return False
    if value[0] != room or value[-1] != other:
        return False
    return all([apart(last, following) == 1 for last, following in zip(value, value[1:])])


def same_family(room, other):
    """Whether the two own rooms by fours are of one family."""
    check_own_two(room, other)
    check_by_fours(room)
    check_by_fours(other)
    return apart(room, other) % 2 == 0
