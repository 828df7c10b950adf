"""The slots in which polynomials are kept from one call to the next."""

from rootkeepers.checks import SLOT_COUNT, check_size
from rootkeepers.fractionpairs import fraction
from rootkeepers.polynomials import without_end_zeros
from rootkeepers.refusals import DifferentDegrees, NotCreated, ZeroPolynomial


class Keeper:
    """An instance: no slots before create, then one polynomial in each slot.

    A polynomial in a slot is replaced, never changed.
    """

    def __init__(self):
        self.slots = []

    def check_created(self):
        """Refuse a call before create."""
        if len(self.slots) == 0:
            raise NotCreated()

    def set_all_to_zero(self):
        """Put the zero polynomial into every slot."""
        self.slots = [[] for slot in range(SLOT_COUNT)]

    def polynomial(self, slot):
        """Give the polynomial in a slot."""
        return self.slots[slot]

    def nonzero_polynomial(self, slot):
        """Give the polynomial in a slot, and refuse the zero polynomial."""
        if len(self.slots[slot]) == 0:
            raise ZeroPolynomial()
        return self.slots[slot]

    def pair_of_one_degree(self, first, second):
        """Give the polynomials in two slots, and refuse a zero polynomial or different degrees."""
        pair = (self.nonzero_polynomial(first), self.nonzero_polynomial(second))
        if len(pair[0]) != len(pair[1]):
            raise DifferentDegrees()
        return pair

    def coefficient_counts(self):
        """Give the number of coefficients in each slot."""
        return [len(polynomial) for polynomial in self.slots]

    def store(self, slot, coefficients):
        """Put the polynomial with these coefficients into a slot and give it back."""
        polynomial = without_end_zeros(coefficients, fraction(0, 1))
        check_size(polynomial)
        self.slots[slot] = polynomial
        return polynomial
