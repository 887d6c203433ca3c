"""Shadow numbers of sums, bounds of least weights, and which numbers can be the row of an own room."""

from owncontraries.basics import is_count
from owncontraries.sums import added_up, check_even_places, check_numbers, fours_terms, products, sum_terms, sums
from owncontraries.sums import taken_out
from owncontraries.words import check_eights

# what the two polynomials of a sum become in its shadow numbers, of the second one 4 times as much:
# 2 x y, and the square of x to the 4 - y to the 4, taken below 0
SHADOW_PLAIN = (0, 2, 0)
SHADOW_SQUARED = (-1, 0, 0, 0, 2, 0, 0, 0, -1)


def check_fours_places(places):
    """Raise an error unless this is a number of places that 8 divides."""
    check_even_places(places)
    check_eights(places)


def shadow_of(places, numbers):
    """The list of the shadow numbers of a sum, told by its INTEGERS; None if one of them is no INTEGER."""
    check_even_places(places)
    most = places // 8
    check_numbers(numbers, most + 1)
    # 4 to the most times as much, so that all is whole
    scale = 1 << (2 * most)
    factors = [number << (2 * (most - power)) for power, number in enumerate(numbers)]
    total = added_up(products(places, SHADOW_PLAIN, SHADOW_SQUARED), factors)
    if any([number % scale != 0 for number in total]):
        return None
    return [number // scale for number in total]


def limit(places):
    """The bound of the least weight in an own room of so many places."""
    check_even_places(places)
    return 2 * (places // 8) + 2


def fours_limit(places):
    """The bound of the least weight in an own room by fours of so many places."""
    check_fours_places(places)
    return 4 * (places // 24) + 4


def greatest_of(places, terms, step):
    """The factors of these terms whose sum has 1 at 0, and 0 at each further place that the terms lead."""
    return taken_out([1] + [0] * places, terms, step)[0]


def greatest(places):
    """The INTEGERS of the greatest sum for so many places."""
    check_even_places(places)
    return greatest_of(places, sum_terms(places), 2)


def fours_greatest(places):
    """The INTEGERS of the greatest sum by fours for so many places."""
    check_fours_places(places)
    return greatest_of(places, fours_terms(places), 4)


def can_be(numbers):
    """Whether the numbers are a sum, and they and its shadow numbers are all COUNTS."""
    factors = sums(numbers)
    if factors is None or not all([is_count(number) for number in numbers]):
        return False
    shadow = shadow_of(len(numbers) - 1, factors)
    return shadow is not None and all([is_count(number) for number in shadow])
