"""The calls on a keeper of slots: each gives back the whole numbers of its answer, or is refused."""

from rootkeepers.checks import check_fraction, check_row, check_slots
from rootkeepers.fractionpairs import fraction
from rootkeepers.polynomials import (
    derived,
    from_roots,
    minus_derived,
    polar_derived,
    with_scaled_roots,
    with_shifted_roots,
)
from rootkeepers.realroots import has_only_real_roots
from rootkeepers.refusals import OutOfRange

MOST_COEFFICIENTS = 7
MOST_ROOTS = 6


def listed(polynomial):
    """Give the number of coefficients, then the numerator and the denominator of each."""
    numbers = [len(polynomial)]
    for coefficient in polynomial:
        numbers.extend(coefficient)
    return numbers


def create(keeper):
    """Set all slots to the zero polynomial."""
    keeper.set_all_to_zero()
    return [0]


def set_polynomial(keeper, slot, denominator, coefficients):
    """Store the polynomial with the coefficients over the common denominator."""
    check_slots([slot])
    check_row(coefficients, MOST_COEFFICIENTS, denominator)
    return listed(keeper.store(slot, [fraction(number, denominator) for number in coefficients]))


def set_roots(keeper, slot, denominator, roots):
    """Store the product of the factors x - root, the roots over the common denominator."""
    check_slots([slot])
    check_row(roots, MOST_ROOTS, denominator)
    return listed(keeper.store(slot, from_roots([fraction(number, denominator) for number in roots])))


def get_polynomial(keeper, slot):
    """Answer the polynomial in the slot."""
    check_slots([slot])
    return listed(keeper.polynomial(slot))


def is_real_rooted(keeper, slot):
    """Answer 1 if the polynomial in the slot is real-rooted, else 0."""
    check_slots([slot])
    return [1 if has_only_real_roots(keeper.nonzero_polynomial(slot)) else 0]


def shift_roots(keeper, source, target, numerator, denominator):
    """Store p(x - c)."""
    check_slots([source, target])
    check_fraction(numerator, denominator)
    polynomial = keeper.nonzero_polynomial(source)
    return listed(keeper.store(target, with_shifted_roots(polynomial, fraction(numerator, denominator))))


def scale_roots(keeper, source, target, numerator, denominator):
    """Store the polynomial whose roots are c times those of p."""
    check_slots([source, target])
    check_fraction(numerator, denominator)
    if numerator == 0:
        raise OutOfRange()
    polynomial = keeper.nonzero_polynomial(source)
    return listed(keeper.store(target, with_scaled_roots(polynomial, fraction(numerator, denominator))))


def reciprocal(keeper, source, target):
    """Store the coefficients of p in reverse order."""
    check_slots([source, target])
    polynomial = keeper.nonzero_polynomial(source)
    return listed(keeper.store(target, list(reversed(polynomial))))


def derivative(keeper, source, target):
    """Store p'."""
    check_slots([source, target])
    polynomial = keeper.nonzero_polynomial(source)
    return listed(keeper.store(target, derived(polynomial)))


def subtract_derivative(keeper, source, target, numerator, denominator):
    """Store p - c * p'."""
    check_slots([source, target])
    check_fraction(numerator, denominator)
    polynomial = keeper.nonzero_polynomial(source)
    return listed(keeper.store(target, minus_derived(polynomial, fraction(numerator, denominator))))


def polar_derivative(keeper, source, target, numerator, denominator):
    """Store n * p - (x - c) * p'."""
    check_slots([source, target])
    check_fraction(numerator, denominator)
    polynomial = keeper.nonzero_polynomial(source)
    return listed(keeper.store(target, polar_derived(polynomial, fraction(numerator, denominator))))


# The calls behind create, by what they take.
OF_A_ROW = {1: set_polynomial, 2: set_roots}
OF_A_SLOT = {3: get_polynomial, 4: is_real_rooted}
OF_TWO_SLOTS = {7: reciprocal, 8: derivative}
OF_TWO_SLOTS_AND_AN_ARGUMENT = {
    5: shift_roots,
    6: scale_roots,
    9: subtract_derivative,
    10: polar_derivative,
}


def perform(keeper, number, parameters, row):
    """Carry out the call with this number on the keeper, and give back its answer."""
    if number == 0:
        return create(keeper)
    keeper.check_created()
    if number in OF_A_ROW:
        return OF_A_ROW[number](keeper, parameters[0], parameters[1], row)
    if number in OF_A_SLOT:
        return OF_A_SLOT[number](keeper, parameters[0])
    if number in OF_TWO_SLOTS:
        return OF_TWO_SLOTS[number](keeper, parameters[0], parameters[1])
    return OF_TWO_SLOTS_AND_AN_ARGUMENT[number](
        keeper, parameters[0], parameters[1], parameters[2], parameters[3]
    )
