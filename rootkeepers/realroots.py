"""Whether all roots of a polynomial are real, decided by Sturm's chain in whole numbers.

Factors above 0 leave the signs in the chain as they are, so each of its polynomials is kept as a
list of whole numbers without a common divisor.
"""

from rootkeepers.fractionpairs import greatest_common_divisor
from rootkeepers.polynomials import without_end_zeros


def whole_coefficients(polynomial):
    """Give whole numbers in the same proportions, with the same signs, as the fractions."""
    common = 1
    for coefficient in polynomial:
        common = common * coefficient[1] // greatest_common_divisor(common, coefficient[1])
    return [coefficient[0] * (common // coefficient[1]) for coefficient in polynomial]


def without_common_divisor(numbers):
    """Give the numbers divided by their greatest common divisor."""
    divisor = 0
    for number in numbers:
        divisor = greatest_common_divisor(divisor, number)
    return [number // divisor for number in numbers]


def negative_remainder(dividend, divisor):
    """Give the remainder of the division, with the other sign and times a number above 0."""
    scale = abs(divisor[-1])
    rest = dividend
    while len(rest) >= len(divisor):
        factor = rest[-1] if divisor[-1] > 0 else -rest[-1]
        offset = len(rest) - len(divisor)
        reduced = [number * scale for number in rest]
        for k, number in enumerate(divisor):
            reduced[offset + k] -= factor * number
        rest = without_end_zeros(reduced, 0)
    return without_common_divisor([-number for number in rest])


def sturm_chain(numbers):
    """Give Sturm's chain; its last polynomial is the common divisor with the derivative."""
    chain = [without_common_divisor(numbers)]
    following = without_common_divisor([k * number for k, number in enumerate(numbers)][1:])
    while len(following) > 0:
        chain.append(following)
        following = negative_remainder(chain[-2], chain[-1])
    return chain


def sign_changes(numbers):
    """Count the neighbours of different signs, where zeros are passed over."""
    signed = [number for number in numbers if number != 0]
    changes = 0
    for k in range(1, len(signed)):
        if (signed[k - 1] < 0) != (signed[k] < 0):
            changes += 1
    return changes


def far_right_changes(chain):
    """Count the sign changes in the chain to the right of all roots."""
    return sign_changes([numbers[-1] for numbers in chain])


def far_left_changes(chain):
    """Count the sign changes in the chain to the left of all roots."""
    # An odd degree, so an even number of coefficients, turns the sign on the far left.
    return sign_changes([-numbers[-1] if len(numbers) % 2 == 0 else numbers[-1] for numbers in chain])


def count_real_roots(chain):
    """Count the different real roots of the chain's first polynomial."""
    return far_left_changes(chain) - far_right_changes(chain)


def has_only_real_roots(polynomial):
    """Tell whether a nonzero polynomial is real-rooted."""
    chain = sturm_chain(whole_coefficients(polynomial))
    # The common divisor with the derivative takes away what roots have beyond multiplicity 1.
    different_roots = len(chain[0]) - len(chain[-1])
    return count_real_roots(chain) == different_roots


def has_only_nonnegative_roots(polynomial):
    """Tell whether a nonzero polynomial is real-rooted and has no negative root."""
    turned = [-pair[0] if k % 2 == 1 else pair[0] for k, pair in enumerate(polynomial)]
    # By Descartes' rule a real-rooted polynomial p has as many negative roots as p(-x) has sign changes.
    return sign_changes(turned) == 0 and has_only_real_roots(polynomial)
