"""Rows of numbers by weight, the table of entries, and the row of the contrary."""

from owncontraries.basics import is_count, is_list
from owncontraries.errors import InvalidAt, InvalidRow, NotWhole
from owncontraries.words import MOST_PLACES, check_places


def is_power_of_2(number):
    """Whether a number above 0 is a power of 2."""
    return (number & (number - 1)) == 0


def is_row(value):
    """Whether the value is a row."""
    if not is_list(value) or not 2 <= len(value) <= MOST_PLACES + 1:
        return False
    if not all([is_count(number) for number in value]) or value[0] != 1:
        return False
    total = sum(value)
    return is_power_of_2(total) and total <= (1 << (len(value) - 1))


def check_row(row):
    """Raise InvalidRow unless this is a row."""
    if not is_row(row):
        raise InvalidRow(row)


def check_at(places, at):
    """Raise InvalidAt unless this is a COUNT up to the number of places."""
    if not is_count(at) or at > places:
        raise InvalidAt(at)


def entries(places, second):
    """The list of the entries of 0, 1, .. and the second one."""
    numbers = [1]
    for factor in range(places):
        sign = -1 if factor < second else 1
        # one factor more, x + y or x - y: each number goes on by x at its place, by y at the next one
        numbers = [by_x + sign * by_y for by_x, by_y in zip(numbers + [0], [0] + numbers)]
    return numbers


def entry(places, first, second):
    """The entry of the first and the second one for so many places."""
    check_places(places)
    check_at(places, first)
    check_at(places, second)
    return entries(places, second)[first]


def changed_sums(row):
    """The numbers to which a row is changed, each times the sum of the row."""
    places = len(row) - 1
    sums = [0] * len(row)
    for second, number in enumerate(row):
        sums = [told + number * part for told, part in zip(sums, entries(places, second))]
    return sums


def changed(row):
    """The list to which the row is changed."""
    check_row(row)
    total = sum(row)
    sums = changed_sums(row)
    for position, number in enumerate(sums):
        if number < 0 or number % total != 0:
            raise NotWhole(position)
    return [number // total for number in sums]


def is_own_row(row):
    """Whether the row is changed to itself."""
    check_row(row)
    total = sum(row)
    return changed_sums(row) == [number * total for number in row]
