"""Exact fractions, each a pair of numerator and denominator.

Every pair is in lowest terms with a positive denominator, so equal fractions are equal pairs.
"""


def greatest_common_divisor(first, second):
    while second != 0:
        remainder = first % second
        first = second
        second = remainder
    return first


def in_lowest_terms(numerator, denominator):
    divisor = greatest_common_divisor(numerator, denominator)
    return (numerator // divisor, denominator // divisor)


def whole(number):
    return (number, 1)


def add(first, second):
    return add_times(first, 1, second)


def add_times(first, factor, second):
    """Give back first plus factor times second; factor is a whole number."""
    numerator = first[0] * second[1] + factor * second[0] * first[1]
    return in_lowest_terms(numerator, first[1] * second[1])


def weighted_mean(weight, first, second):
    """Give back the mean of first, which counts weight times, and second, which counts once."""
    numerator = weight * first[0] * second[1] + second[0] * first[1]
    return in_lowest_terms(numerator, (weight + 1) * first[1] * second[1])
