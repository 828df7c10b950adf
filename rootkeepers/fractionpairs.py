"""Fractions in lowest terms: pairs of a numerator and a denominator above 0."""


def greatest_common_divisor(first, second):
    """Give the greatest whole number that divides both, or 0 if both are 0."""
    larger = abs(first)
    smaller = abs(second)
    while smaller != 0:
        remainder = larger % smaller
        larger = smaller
        smaller = remainder
    return larger


def fraction(numerator, denominator):
    """Give numerator / denominator in lowest terms; the denominator is above 0."""
    divisor = greatest_common_divisor(numerator, denominator)
    return (numerator // divisor, denominator // divisor)


def plus(first, second):
    """Give the sum of two fractions."""
    return fraction(first[0] * second[1] + second[0] * first[1], first[1] * second[1])


def times(first, second):
    """Give the product of two fractions."""
    return fraction(first[0] * second[0], first[1] * second[1])


def times_whole(number, factor):
    """Give a fraction times a whole number."""
    return fraction(number[0] * factor, number[1])


def negative(number):
    """Give a fraction with the other sign."""
    return (-number[0], number[1])


def inverse(number):
    """Give 1 / number, for a fraction other than 0."""
    if number[0] < 0:
        return (-number[1], -number[0])
    return (number[1], number[0])
