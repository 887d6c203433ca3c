"""How many rooms of so many places are their own contrary."""

from owncontraries.fills import product_of
from owncontraries.words import check_places


def own_number(places):
    """How many own rooms of so many places there are."""
    check_places(places)
    if places % 2 == 1:
        return 0
    return product_of(2, places // 2 - 1)


def fours_number(places):
    """How many own rooms by fours of so many places there are."""
    check_places(places)
    if places % 8 > 0:
        return 0
    return product_of(1, places // 2 - 1)
