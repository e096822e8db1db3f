"""Fractions as pairs of a numerator and a denominator."""


def common_divisor(first, second):
    """The greatest common divisor of two numbers that are not below 0 and not both 0."""
    while second != 0:
        rest = first % second
        first = second
        second = rest
    return first


def lowest_terms(numerator, denominator):
    """The fraction in lowest terms, with a positive denominator."""
    divisor = common_divisor(abs(numerator), abs(denominator))
    if denominator < 0:
        divisor = -divisor
    return (numerator // divisor, denominator // divisor)


def negated(fraction):
    return (-fraction[0], fraction[1])


def nearest(numerator, denominator):
    """The whole number nearest to the fraction, of two the greater one; the denominator is positive."""
    return (2 * numerator + denominator) // (2 * denominator)


def total(fractions):
    """The sum of fractions, in lowest terms."""
    numerator = 0
    denominator = 1
    for fraction in fractions:
        numerator = numerator * fraction[1] + fraction[0] * denominator
        denominator = denominator * fraction[1]
    # Only the sum is reduced: a divisor of long numbers costs far more than their product.
    return lowest_terms(numerator, denominator)
