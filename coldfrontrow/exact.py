"""Exact fractions, each a pair of numerator and denominator.

Every pair is in lowest terms with a positive denominator, so equal fractions are equal pairs.
"""


def greatest_common_divisor(first, second):
    while second != 0:
        remainder = first % second
        first = second
        second = remainder
    return first


def in_lowest_terms(numerator, denominator):
    divisor = greatest_common_divisor(numerator, denominator)
    return (numerator // divisor, denominator // divisor)


def whole(number):
    return (number, 1)


def add(first, second):
    return add_times(first, 1, second)


def add_times(first, factor, second):
    """Give back first plus factor times second; factor is a whole number."""
    numerator = first[0] * second[1] + factor * second[0] * first[1]
    return in_lowest_terms(numerator, first[1] * second[1])


def weighted_mean(weight, first, second):
    """Give back the mean of first, which counts weight times, and second, which counts once."""
    numerator = weight * first[0] * second[1] + second[0] * first[1]
    return in_lowest_terms(numerator, (weight + 1) * first[1] * second[1])


def mean(first, second):
    return weighted_mean(1, first, second)


def is_less(first, second):
    # Denominators are positive, so multiplying them out keeps the order.
    return first[0] * second[1] < second[0] * first[1]


def greatest(fractions):
    found = fractions[0]
    for fraction in fractions:
        if is_less(found, fraction):
            found = fraction
    return found


def smallest(fractions):
    found = fractions[0]
    for fraction in fractions:
        if is_less(fraction, found):
            found = fraction
    return found
