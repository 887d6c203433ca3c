"""Moments of rows, and how many walks come to a word."""

from owncontraries.basics import is_count
from owncontraries.errors import InvalidPower
from owncontraries.tables import check_at, check_row
from owncontraries.words import check_places

MOST_POWER = 12


def check_power(power):
    """Raise InvalidPower unless this is a COUNT that is not too large."""
    if not is_count(power) or power > MOST_POWER:
        raise InvalidPower(power)


def raised(number, power):
    """The number to the power; 1 for the power 0, whatever the number."""
    result = 1
    for _ in range(power):
        result = result * number
    return result


def moment(row, power):
    """The moment of a row by the power."""
    check_row(row)
    check_power(power)
    places = len(row) - 1
    return sum([number * raised(places - 2 * place, power) for place, number in enumerate(row)])


def one_longer(counts):
    """How many ways come to a word of each weight, from how many with one place fewer come to it."""
    places = len(counts) - 1
    # the place taken last is one of those that are on in the word, or one of the others
    padded = [0] + counts + [0]
    return [at * padded[at] + (places - at) * padded[at + 2] for at in range(places + 1)]


def walks(places, weight, power):
    """How many ways of as many places as the power tells come to a word of the weight."""
    check_places(places)
    check_at(places, weight)
    check_power(power)
    # the one way without places comes to the word 0
    counts = [1] + [0] * places
    for _ in range(power):
        counts = one_longer(counts)
    return counts[weight]
