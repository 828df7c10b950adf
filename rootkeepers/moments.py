"""Mean and variance of all complex roots, told from the coefficients without the roots themselves."""

from rootkeepers.fractionpairs import fraction, inverse, negative, plus, times, times_whole


def symmetric_sum(polynomial, size):
    """Give, by Vieta, the sum of the products of every `size` roots; without such products it is 0."""
    place = len(polynomial) - 1 - size
    if place < 0:
        return fraction(0, 1)
    ratio = times(polynomial[place], inverse(polynomial[-1]))
    return negative(ratio) if size % 2 == 1 else ratio


def mean_of_roots(polynomial):
    """Give the mean of the roots of a nonzero polynomial; for a constant it is 0."""
    degree = len(polynomial) - 1
    if degree == 0:
        return fraction(0, 1)
    return times(symmetric_sum(polynomial, 1), fraction(1, degree))


def variance_of_roots(polynomial):
    """Give the mean of the roots' squares minus the square of their mean; for a constant it is 0."""
    degree = len(polynomial) - 1
    if degree == 0:
        return fraction(0, 1)
    total = symmetric_sum(polynomial, 1)
    squares = plus(times(total, total), times_whole(symmetric_sum(polynomial, 2), -2))
    average = mean_of_roots(polynomial)
    return plus(times(squares, fraction(1, degree)), negative(times(average, average)))
