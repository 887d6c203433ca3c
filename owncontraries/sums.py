"""Gleason's sums: rows as sums of products of two polynomials.

A list of numbers stands for a polynomial, its number at i going with y to the i.
"""

from owncontraries.basics import are_integers
from owncontraries.errors import InvalidNumbers, InvalidPlaces
from owncontraries.words import MOST_PLACES, check_eights, check_places

# x x + y y, and x x y y times the square of x x - y y
PLAIN = (1, 0, 1)
SQUARED = (0, 0, 1, 0, -2, 0, 1, 0, 0)
# x to the 8 + 14 x to the 4 y to the 4 + y to the 8, and x to the 4 y to the 4 times x to the 4 - y to the 4, to the 4
FOURS_PLAIN = (1, 0, 0, 0, 14, 0, 0, 0, 1)
FOURS_SQUARED = (0, 0, 0, 0, 1, 0, 0, 0, -4, 0, 0, 0, 6, 0, 0, 0, -4, 0, 0, 0, 1, 0, 0, 0, 0)


def check_even_places(places):
    """Raise InvalidPlaces unless this is an even number of places."""
    check_places(places)
    if places % 2 == 1:
        raise InvalidPlaces(places)


def check_numbers(numbers, many):
    """Raise InvalidNumbers unless this is a list of so many INTEGERS."""
    if not are_integers(numbers) or len(numbers) != many:
        raise InvalidNumbers(numbers)


def are_all_numbers(value):
    """Whether the value is a list of one INTEGER more than an even number of places."""
    return are_integers(value) and len(value) % 2 == 1 and 3 <= len(value) <= MOST_PLACES + 1


def check_all_numbers(numbers):
    """Raise InvalidNumbers unless this is a list of one INTEGER more than an even number of places."""
    if not are_all_numbers(numbers):
        raise InvalidNumbers(numbers)


def multiplied(polynomial, other):
    """The product of two polynomials."""
    numbers = [0] * (len(polynomial) + len(other) - 1)
    for at, number in enumerate(polynomial):
        for other_at, factor in enumerate(other):
            numbers[at + other_at] += number * factor
    return numbers


def to_power(polynomial, power):
    """The polynomial multiplied by itself so often; 1 for the power 0."""
    product = [1]
    for _ in range(power):
        product = multiplied(product, polynomial)
    return product


def products(places, polynomial, other):
    """The products of so many places of powers of two polynomials: of the other one to the 0, 1, .. as it fits."""
    size, other_size = len(polynomial) - 1, len(other) - 1
    found = []
    for power in range(places // other_size + 1):
        rest = to_power(polynomial, (places - other_size * power) // size)
        found.append(multiplied(rest, to_power(other, power)))
    return found


def added_up(terms, factors):
    """The sum of polynomials, each times its factor."""
    total = [0] * len(terms[0])
    for term, factor in zip(terms, factors):
        total = [number + factor * part for number, part in zip(total, term)]
    return total


def taken_out(numbers, terms, step):
    """The factors of the terms by which the numbers at the places 0, step, .. come to 0, and what is left of all."""
    left = list(numbers)
    factors = []
    for position, term in enumerate(terms):
        # each term has 1 at this place, and the terms behind it have 0 here
        factor = left[step * position]
        factors.append(factor)
        left = [number - factor * part for number, part in zip(left, term)]
    return (factors, left)


def led_back(numbers, terms, step):
    """The factors of the terms whose sum the numbers are; None if they are no such sum."""
    factors, left = taken_out(numbers, terms, step)
    if any([number != 0 for number in left]):
        return None
    return factors


def sum_terms(places):
    """The polynomials of which sums for so many places are made."""
    return products(places, PLAIN, SQUARED)


def fours_terms(places):
    """The polynomials of which sums by fours for so many places are made."""
    return products(places, FOURS_PLAIN, FOURS_SQUARED)


def sums(numbers):
    """The list of the INTEGERS of the sum that the numbers are; None if they are none."""
    check_all_numbers(numbers)
    return led_back(numbers, sum_terms(len(numbers) - 1), 2)


def row_of(places, numbers):
    """The list of the numbers of a sum for so many places, told by its INTEGERS."""
    check_even_places(places)
    check_numbers(numbers, places // 8 + 1)
    return added_up(sum_terms(places), numbers)


def fours_sums(numbers):
    """The list of the INTEGERS of the sum by fours that the numbers are; None if they are none."""
    check_all_numbers(numbers)
    places = len(numbers) - 1
    check_eights(places)
    return led_back(numbers, fours_terms(places), 4)


def fours_row_of(places, numbers):
    """The list of the numbers of a sum by fours for so many places, told by its INTEGERS."""
    check_even_places(places)
    check_numbers(numbers, places // 24 + 1)
    check_eights(places)
    return added_up(fours_terms(places), numbers)
