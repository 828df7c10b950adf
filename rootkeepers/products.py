"""Multiplier sequences, products by coefficients, and the free sum.

No function here changes a polynomial that it is given. A result may have zeros at its end.
"""

from rootkeepers.fractionpairs import fraction, times
from rootkeepers.polynomials import derived, multiplied, sum_of


def factorial(number):
    """Give number!."""
    result = 1
    for factor in range(2, number + 1):
        result *= factor
    return result


def binomial(upper, lower):
    """Give the binomial coefficient."""
    return factorial(upper) // (factorial(lower) * factorial(upper - lower))


def power_of_two(exponent):
    """Give 2^exponent."""
    power = 1
    for step in range(exponent):
        power *= 2
    return power


def multiplier(sequence, k):
    """Give the number with which the sequence multiplies the coefficient of the power k."""
    if sequence == 0:
        return fraction(k, 1)
    if sequence == 1:
        return fraction(k + 1, 1)
    if sequence == 2:
        return fraction(1, factorial(k))
    if sequence == 3:
        return fraction(1, power_of_two(k * k))
    if sequence == 4:
        return fraction(k * (k - 1), 1)
    return fraction(k * k, 1)


def with_multipliers(polynomial, sequence):
    """Give the coefficients p[k] * m(k) for the multiplier sequence m."""
    return [times(coefficient, multiplier(sequence, k)) for k, coefficient in enumerate(polynomial)]


def weighted_product(first, second, weights):
    """Give the products of the coefficients of each power and its weight."""
    return [times(times(a, b), weight) for a, b, weight in zip(first, second, weights)]


def schur_szego_of(first, second):
    """Give the coefficients p[k] * q[k] / binomial(n, k)."""
    degree = len(first) - 1
    weights = [fraction(1, binomial(degree, k)) for k in range(degree + 1)]
    return weighted_product(first, second, weights)


def schur_product_of(first, second):
    """Give the coefficients p[k] * q[k] * k!."""
    weights = [fraction(factorial(k), 1) for k in range(len(first))]
    return weighted_product(first, second, weights)


def hadamard_product_of(first, second):
    """Give the coefficients p[k] * q[k]."""
    return [times(a, b) for a, b in zip(first, second)]


def free_sum_of(first, second):
    """Give the sum of p^(k) * q^(n - k)(0) / n! over k, for the common degree n."""
    degree = len(first) - 1
    total = []
    derivative_of_first = first
    for k in range(degree + 1):
        # The derivative of order n - k at 0 is (n - k)! * q[n - k].
        part = fraction(factorial(degree - k), factorial(degree))
        weight = times(second[degree - k], part)
        total = sum_of(total, multiplied(derivative_of_first, weight))
        derivative_of_first = derived(derivative_of_first)
    return total
