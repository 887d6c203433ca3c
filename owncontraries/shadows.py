"""Shadow words of still rooms, shadow rows of own ones, and the two own rooms by fours beside an own room."""

from owncontraries.contraries import check_own, check_still
from owncontraries.errors import ByFours
from owncontraries.fours import fours_fills, fours_half, is_by_fours, is_uneven
from owncontraries.rooms import highest, sums_of
from owncontraries.weights import counted_weights
from owncontraries.words import are_even, check_eights, is_word


def shadow_word(room):
    """A shadow word of the still room."""
    check_still(room)
    # half of a sum's weight leaves by 2 what the half weights leave together, so the basis words decide;
    # each of them is met in its highest place, and only it
    return sum([highest(base) for base in room.basis() if is_uneven(base)])


def is_shadow_word(room, value):
    """Whether the value is a shadow word of the still room."""
    check_still(room)
    if not is_word(room.places, value):
        return False
    return all([are_even(base, value) != is_uneven(base) for base in room.basis()])


def shadow_row(room):
    """How many shadow words of the own room have the weight 0, 1, .."""
    check_own(room)
    shadow = shadow_word(room)
    return counted_weights(room.places, [word ^ shadow for word in sums_of(room.basis())])


def beside_two(room):
    """The list of the two own rooms by fours over the fours half of the own room, sorted by their plain bases."""
    check_own(room)
    if is_by_fours(room):
        raise ByFours()
    check_eights(room.places)
    return fours_fills(fours_half(room))
