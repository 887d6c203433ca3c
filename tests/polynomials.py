"""Polynomials in x and y, dicts from the powers of both to numbers, and the sums of the document made of them."""

from fractions import Fraction

# x x + y y, and x x y y times the square of x x - y y
F = {(2, 0): 1, (0, 2): 1}
# x to the 8 + 14 x to the 4 y to the 4 + y to the 8
P = {(8, 0): 1, (4, 4): 14, (0, 8): 1}
FOURTHS = {(4, 0): 1, (0, 4): -1}


def times(first, second):
    """The product of two polynomials."""
    product = {}
    for (x, y), number in first.items():
        for (more_x, more_y), other in second.items():
            at = (x + more_x, y + more_y)
            product[at] = product.get(at, 0) + number * other
    return product


def power(polynomial, often):
    """The polynomial multiplied by itself so often."""
    product = {(0, 0): 1}
    for _ in range(often):
        product = times(product, polynomial)
    return product


G = times({(2, 2): 1}, power({(2, 0): 1, (0, 2): -1}, 2))
Q = times({(4, 4): 1}, power(FOURTHS, 4))


def numbers_of(places, summands):
    """The numbers of the sum of such products, each a factor and a polynomial."""
    numbers = [0] * (places + 1)
    for factor, polynomial in summands:
        for (x, y), number in polynomial.items():
            assert x + y == places
            numbers[y] += factor * number
    return numbers


def plain_row(places, numbers):
    """The numbers of a sum, as point 61 tells."""
    products = [times(power(F, places // 2 - 4 * j), power(G, j)) for j in range(places // 8 + 1)]
    return numbers_of(places, zip(numbers, products))


def plain_fours_row(places, numbers):
    """The numbers of a sum by fours, as point 64 tells."""
    products = [times(power(P, places // 8 - 3 * j), power(Q, j)) for j in range(places // 24 + 1)]
    return numbers_of(places, zip(numbers, products))


def plain_shadow_numbers(places, numbers):
    """The shadow numbers of a sum, as point 65 tells, fractions."""
    summands = []
    for j, number in enumerate(numbers):
        factor = number * (-1) ** j * Fraction(2) ** (places // 2 - 6 * j)
        middle = places // 2 - 4 * j
        summands.append((factor, times({(middle, middle): 1}, power(FOURTHS, 2 * j))))
    return numbers_of(places, summands)
