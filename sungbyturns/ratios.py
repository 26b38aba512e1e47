"""Fractions: tuples (numerator, denominator) in lowest terms, with a positive denominator."""

from math import gcd

ZERO = (0, 1)
ONE = (1, 1)


def is_whole_number(value):
    return isinstance(value, int) and not isinstance(value, bool)


def is_fraction(value):
    """Tell whether a value of any kind is a fraction."""
    if not isinstance(value, tuple) or len(value) != 2:
        return False
    numerator, denominator = value
    if not is_whole_number(numerator) or not is_whole_number(denominator):
        return False
    return denominator > 0 and gcd(numerator, denominator) == 1


def lowest_terms(numerator, denominator):
    """Return the fraction of two integers, of which the second is positive."""
    shared = gcd(numerator, denominator)
    return numerator // shared, denominator // shared


def sum_of(fractions):
    total = ZERO
    for numerator, denominator in fractions:
        total = lowest_terms(total[0] * denominator + numerator * total[1], total[1] * denominator)
    return total


def difference(left, right):
    return sum_of([left, (-right[0], right[1])])


def multiple(fraction, times):
    return lowest_terms(fraction[0] * times, fraction[1])


def part(fraction, parts):
    """Return one of a positive number of equal parts of a fraction."""
    return lowest_terms(fraction[0], fraction[1] * parts)


def is_less(left, right):
    return left[0] * right[1] < right[0] * left[1]


def spread(fractions):
    """Return the largest of some fractions minus the smallest."""
    smallest = largest = fractions[0]
    for fraction in fractions:
        if is_less(fraction, smallest):
            smallest = fraction
        if is_less(largest, fraction):
            largest = fraction
    return difference(largest, smallest)
