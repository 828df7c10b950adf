"""Polynomials: lists of fractions by ascending power.

No function here changes a polynomial that it is given. A result may have zeros at its end.
"""

from rootkeepers.fractionpairs import fraction, negative, plus, times, times_whole


def without_end_zeros(numbers, zero):
    """Give a copy of the list without the zeros at its end."""
    kept = list(numbers)
    while len(kept) > 0 and kept[-1] == zero:
        kept.pop()
    return kept


def sum_of(first, second):
    """Give the sum of two lists of coefficients, the shorter one filled up with zeros."""
    length = max(len(first), len(second))
    zero = fraction(0, 1)
    longer_first = first + [zero for k in range(length - len(first))]
    longer_second = second + [zero for k in range(length - len(second))]
    return [plus(a, b) for a, b in zip(longer_first, longer_second)]


def multiplied(polynomial, factor):
    """Give the polynomial with every coefficient times the fraction."""
    return [times(coefficient, factor) for coefficient in polynomial]


def times_root_factor(polynomial, root):
    """Give the polynomial times x - root."""
    raised = [fraction(0, 1)] + polynomial
    return sum_of(raised, multiplied(polynomial, negative(root)))


def from_roots(roots):
    """Give the product of the factors x - root; without roots it is 1."""
    product = [fraction(1, 1)]
    for root in roots:
        product = times_root_factor(product, root)
    return product


def with_shifted_roots(polynomial, shift):
    """Give p(x - shift), by Horner's scheme in x - shift."""
    shifted = []
    for coefficient in reversed(polynomial):
        shifted = sum_of(times_root_factor(shifted, shift), [coefficient])
    return shifted


def with_scaled_roots(polynomial, factor):
    """Give the coefficients p[i] * factor^(n - i)."""
    scaled = []
    power = fraction(1, 1)
    for coefficient in reversed(polynomial):
        scaled.append(times(coefficient, power))
        power = times(power, factor)
    return list(reversed(scaled))


def derived(polynomial):
    """Give the derivative."""
    multiples = [times_whole(coefficient, k) for k, coefficient in enumerate(polynomial)]
    return multiples[1:]


def minus_derived(polynomial, factor):
    """Give p - factor * p'."""
    return sum_of(polynomial, multiplied(derived(polynomial), negative(factor)))


def polar_derived(polynomial, pole):
    """Give n * p - (x - pole) * p' for the degree n.

    The power k of n * p - x * p' has the coefficient (n - k) * p[k].
    """
    degree = len(polynomial) - 1
    around_zero = [times_whole(coefficient, degree - k) for k, coefficient in enumerate(polynomial)]
    return sum_of(around_zero, multiplied(derived(polynomial), pole))
