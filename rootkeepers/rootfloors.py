"""Floors of roots: Sturm's chain counts the roots from a whole number on, and halving finds the floor."""

from rootkeepers.fractionpairs import fraction
from rootkeepers.polynomials import with_scaled_roots
from rootkeepers.products import power_of_two
from rootkeepers.realroots import far_right_changes, sign_changes, sturm_chain, whole_coefficients


def exact_quotient(dividend, divisor):
    """Give the quotient of whole coefficients, where the division leaves nothing and no fractions."""
    rest = list(dividend)
    from_the_top = []
    for offset in range(len(dividend) - len(divisor), -1, -1):
        factor = rest[offset + len(divisor) - 1] // divisor[-1]
        from_the_top.append(factor)
        for k, number in enumerate(divisor):
            rest[offset + k] -= factor * number
    return list(reversed(from_the_top))


def chain_of_scaled_roots(polynomial, bits):
    """Give a chain whose first polynomial has the polynomial's roots times 2^bits, each once."""
    scaled = with_scaled_roots(polynomial, fraction(power_of_two(bits), 1))
    chain = sturm_chain(whole_coefficients(scaled))
    # At a multiple root the whole chain would be 0, so it is divided by the common divisor. The chain's
    # polynomials have no whole divisor above 1, so by Gauss' lemma the quotients are whole again.
    return [exact_quotient(numbers, chain[-1]) for numbers in chain]


def value_at(numbers, place):
    """Give the value of the polynomial with these whole coefficients at a whole number."""
    value = 0
    for number in reversed(numbers):
        value = value * place + number
    return value


def count_roots_from(chain, place):
    """Count the roots of the chain's first polynomial that are not below a whole number."""
    values = [value_at(numbers, place) for numbers in chain]
    above = sign_changes(values) - far_right_changes(chain)
    return above + 1 if values[0] == 0 else above


def floor_of_root(chain, wanted):
    """Give the greatest whole number with as many roots as wanted from it on; there are as many roots."""
    high = 1
    while count_roots_from(chain, high) >= wanted:
        high *= 2
    low = -1
    while count_roots_from(chain, low) < wanted:
        low *= 2
    while high - low > 1:
        middle = (low + high) // 2
        if count_roots_from(chain, middle) >= wanted:
            low = middle
        else:
            high = middle
    return low
