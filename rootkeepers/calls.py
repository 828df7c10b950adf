"""The calls on a keeper of slots: each gives back the whole numbers of its answer, or is refused."""

from rootkeepers.checks import (
    SLOT_COUNT,
    check_bits,
    check_fraction,
    check_row,
    check_sequence,
    check_slots,
)
from rootkeepers.fractionpairs import fraction
from rootkeepers.moments import mean_of_roots, variance_of_roots
from rootkeepers.polynomials import (
    derived,
    from_roots,
    minus_derived,
    polar_derived,
    with_scaled_roots,
    with_shifted_roots,
)
from rootkeepers.products import (
    free_sum_of,
    hadamard_product_of,
    schur_product_of,
    schur_szego_of,
    with_multipliers,
)
from rootkeepers.realroots import count_real_roots, has_only_nonnegative_roots, has_only_real_roots
from rootkeepers.refusals import NoRoot, OutOfRange
from rootkeepers.rootfloors import chain_of_scaled_roots, floor_of_root

MOST_COEFFICIENTS = 7
MOST_ROOTS = 6


def listed(polynomial):
    """Give the number of coefficients, then the numerator and the denominator of each."""
    numbers = [len(polynomial)]
    for coefficient in polynomial:
        numbers.extend(coefficient)
    return numbers


def create(keeper):
    """Set all slots to the zero polynomial."""
    keeper.set_all_to_zero()
    return [0]


def set_polynomial(keeper, slot, denominator, coefficients):
    """Store the polynomial with the coefficients over the common denominator."""
    check_slots([slot])
    check_row(coefficients, MOST_COEFFICIENTS, denominator)
    return listed(keeper.store(slot, [fraction(number, denominator) for number in coefficients]))


def set_roots(keeper, slot, denominator, roots):
    """Store the product of the factors x - root, the roots over the common denominator."""
    check_slots([slot])
    check_row(roots, MOST_ROOTS, denominator)
    return listed(keeper.store(slot, from_roots([fraction(number, denominator) for number in roots])))


def get_polynomial(keeper, slot):
    """Answer the polynomial in the slot."""
    check_slots([slot])
    return listed(keeper.polynomial(slot))


def is_real_rooted(keeper, slot):
    """Answer 1 if the polynomial in the slot is real-rooted, else 0."""
    check_slots([slot])
    return [1 if has_only_real_roots(keeper.nonzero_polynomial(slot)) else 0]


def shift_roots(keeper, source, target, numerator, denominator):
    """Store p(x - c)."""
    check_slots([source, target])
    check_fraction(numerator, denominator)
    polynomial = keeper.nonzero_polynomial(source)
    return listed(keeper.store(target, with_shifted_roots(polynomial, fraction(numerator, denominator))))


def scale_roots(keeper, source, target, numerator, denominator):
    """Store the polynomial whose roots are c times those of p."""
    check_slots([source, target])
    check_fraction(numerator, denominator)
    if numerator == 0:
        raise OutOfRange()
    polynomial = keeper.nonzero_polynomial(source)
    return listed(keeper.store(target, with_scaled_roots(polynomial, fraction(numerator, denominator))))


def reciprocal(keeper, source, target):
    """Store the coefficients of p in reverse order."""
    check_slots([source, target])
    polynomial = keeper.nonzero_polynomial(source)
    return listed(keeper.store(target, list(reversed(polynomial))))


def derivative(keeper, source, target):
    """Store p'."""
    check_slots([source, target])
    polynomial = keeper.nonzero_polynomial(source)
    return listed(keeper.store(target, derived(polynomial)))


def subtract_derivative(keeper, source, target, numerator, denominator):
    """Store p - c * p'."""
    check_slots([source, target])
    check_fraction(numerator, denominator)
    polynomial = keeper.nonzero_polynomial(source)
    return listed(keeper.store(target, minus_derived(polynomial, fraction(numerator, denominator))))


def polar_derivative(keeper, source, target, numerator, denominator):
    """Store n * p - (x - c) * p'."""
    check_slots([source, target])
    check_fraction(numerator, denominator)
    polynomial = keeper.nonzero_polynomial(source)
    return listed(keeper.store(target, polar_derived(polynomial, fraction(numerator, denominator))))


def apply_multiplier(keeper, source, target, sequence):
    """Store the coefficients p[k] * m(k) for the multiplier sequence m."""
    check_slots([source, target])
    check_sequence(sequence)
    polynomial = keeper.nonzero_polynomial(source)
    return listed(keeper.store(target, with_multipliers(polynomial, sequence)))


def store_combined(keeper, first, second, target, combine):
    """Store what combine makes of the polynomials in two slots, which have the same degree."""
    check_slots([first, second, target])
    pair = keeper.pair_of_one_degree(first, second)
    return listed(keeper.store(target, combine(pair[0], pair[1])))


def schur_szego(keeper, first, second, target):
    """Store the coefficients p[k] * q[k] / binomial(n, k)."""
    return store_combined(keeper, first, second, target, schur_szego_of)


def schur_product(keeper, first, second, target):
    """Store the coefficients p[k] * q[k] * k!."""
    return store_combined(keeper, first, second, target, schur_product_of)


def hadamard_product(keeper, first, second, target):
    """Store the coefficients p[k] * q[k]."""
    return store_combined(keeper, first, second, target, hadamard_product_of)


def free_sum(keeper, first, second, target):
    """Store the finite free additive convolution."""
    return store_combined(keeper, first, second, target, free_sum_of)


def mean(keeper, slot):
    """Answer the mean of the roots."""
    check_slots([slot])
    return [0] + list(mean_of_roots(keeper.nonzero_polynomial(slot)))


def variance(keeper, slot):
    """Answer the variance of the roots."""
    check_slots([slot])
    return [0] + list(variance_of_roots(keeper.nonzero_polynomial(slot)))


def chain_in_slot(keeper, slot, bits):
    """Give the chain for the roots times 2^bits of the polynomial in the slot, which has a root."""
    check_slots([slot])
    polynomial = keeper.nonzero_polynomial(slot)
    check_bits(bits)
    chain = chain_of_scaled_roots(polynomial, bits)
    if count_real_roots(chain) == 0:
        raise NoRoot()
    return chain


def greatest_root(keeper, slot, bits):
    """Answer the floor of the greatest root."""
    return [0, floor_of_root(chain_in_slot(keeper, slot, bits), 1)]


def smallest_root(keeper, slot, bits):
    """Answer the floor of the smallest root."""
    chain = chain_in_slot(keeper, slot, bits)
    return [0, floor_of_root(chain, count_real_roots(chain))]


def has_nonnegative_roots(keeper, slot):
    """Answer 1 if the polynomial in the slot is real-rooted and has no negative root, else 0."""
    check_slots([slot])
    return [1 if has_only_nonnegative_roots(keeper.nonzero_polynomial(slot)) else 0]


def summary(keeper):
    """Answer the number of slots, then the number of coefficients in each."""
    return [SLOT_COUNT] + keeper.coefficient_counts()


# The calls behind create, by how many whole numbers they take.
OF_NONE = {21: summary}
OF_ONE = {3: get_polynomial, 4: is_real_rooted, 16: mean, 17: variance, 20: has_nonnegative_roots}
OF_TWO = {7: reciprocal, 8: derivative, 18: greatest_root, 19: smallest_root}
OF_TWO_AND_A_ROW = {1: set_polynomial, 2: set_roots}
OF_THREE = {
    11: apply_multiplier,
    12: schur_szego,
    13: schur_product,
    14: hadamard_product,
    15: free_sum,
}
OF_FOUR = {5: shift_roots, 6: scale_roots, 9: subtract_derivative, 10: polar_derivative}


def perform(keeper, number, parameters, row):
    """Carry out the call with this number on the keeper, and give back its answer."""
    if number == 0:
        return create(keeper)
    keeper.check_created()
    if number in OF_NONE:
        return OF_NONE[number](keeper)
    if number in OF_ONE:
        return OF_ONE[number](keeper, parameters[0])
    if number in OF_TWO:
        return OF_TWO[number](keeper, parameters[0], parameters[1])
    if number in OF_TWO_AND_A_ROW:
        return OF_TWO_AND_A_ROW[number](keeper, parameters[0], parameters[1], row)
    if number in OF_THREE:
        return OF_THREE[number](keeper, parameters[0], parameters[1], parameters[2])
    return OF_FOUR[number](keeper, parameters[0], parameters[1], parameters[2], parameters[3])
