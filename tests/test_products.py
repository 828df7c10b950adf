"""schur_szego, schur_product, hadamard_product and free_sum: ordinary inputs, named edges, and errors."""

import itertools
import unittest
from fractions import Fraction
from math import comb, factorial

from sessions import PRODUCTS, after_create, last, listed, product

NONE = 4294967295
P = [3, -2, 0, 5, 7, 0, 1]
Q = [4, 6, 9, -10, 3, 8, -2]


def combined(name, first, second):
    """What the call answers for the whole coefficients in the slots 0 and 1."""
    return last(("set_polynomial", 0, 1, first), ("set_polynomial", 1, 1, second), (name, 0, 1, 2))


class SchurSzego(unittest.TestCase):

    def test_ordinary(self):
        self.assertEqual(combined("schur_szego", [1, 2, 3], [4, 5, 6]), listed([4, 5, 18]))
        expected = [12, -2, 0, "-5/2", "7/5", 0, -2]
        self.assertEqual(combined("schur_szego", P, Q), listed(expected))

    def test_the_power_of_x_plus_1_changes_nothing(self):
        for degree in range(7):
            row = [7, -5, 11, 2, -9, 4, 3][:degree + 1]
            powers = [comb(degree, k) for k in range(degree + 1)]
            self.assertEqual(combined("schur_szego", row, powers), listed(row))
            self.assertEqual(combined("schur_szego", powers, row), listed(row))

    def test_all_powers(self):
        expected = [Fraction(a * b, comb(6, k)) for k, (a, b) in enumerate(zip(P, Q))]
        self.assertEqual(combined("schur_szego", Q, P), listed(expected))


class SchurProduct(unittest.TestCase):

    def test_ordinary(self):
        self.assertEqual(combined("schur_product", [1, 2, 3], [4, 5, 6]), listed([4, 10, 36]))
        expected = [12, -12, 0, -300, 504, 0, -1440]
        self.assertEqual(combined("schur_product", P, Q), listed(expected))

    def test_the_factorials(self):
        self.assertEqual(combined("schur_product", [1] * 7, [1] * 7), listed([1, 1, 2, 6, 24, 120, 720]))


class HadamardProduct(unittest.TestCase):

    def test_ordinary(self):
        self.assertEqual(combined("hadamard_product", [1, 2, 3], [4, 5, 6]), listed([4, 10, 18]))
        self.assertEqual(combined("hadamard_product", P, Q), listed([12, -12, 0, -50, 21, 0, -2]))

    def test_ones_change_nothing(self):
        self.assertEqual(combined("hadamard_product", P, [1] * 7), listed(P))

    def test_lowest_terms(self):
        calls = [("set_polynomial", 0, 6, [4, 3, 1]), ("set_polynomial", 1, 4, [6, -2, 8])]
        self.assertEqual(last(*calls, ("hadamard_product", 0, 1, 3)), [3, 1, 1, -1, 4, 1, 3])


class FreeSum(unittest.TestCase):

    def test_ordinary(self):
        self.assertEqual(combined("free_sum", [-1, 0, 1], [-1, 0, 1]), listed([-2, 0, 1]))
        # (1 / 2) * (p * 12 + p' * 5 + p'' * 4) for p = 1 + 2 * x + 3 * x^2.
        self.assertEqual(combined("free_sum", [1, 2, 3], [4, 5, 6]), listed([23, 27, 18]))

    def test_the_mean_over_all_pairings_of_the_roots(self):
        for first, second in (([1, 2], [5, 9]), ([0, 3, -4], [2, 2, 7]), ([1, 1, -6, 3], [-2, 5, 0, 8])):
            total = [Fraction(0)] * (len(first) + 1)
            for order in itertools.permutations(second):
                pairing = product(*[[-a - b, 1] for a, b in zip(first, order)])
                total = [a + b for a, b in zip(total, pairing)]
            expected = [coefficient / factorial(len(first)) for coefficient in total]
            calls = [("set_roots", 0, 1, first), ("set_roots", 1, 1, second), ("free_sum", 0, 1, 2)]
            self.assertEqual(last(*calls), listed(expected))

    def test_degree_6_by_coefficients(self):
        expected = [Fraction(0)] * 7
        for i in range(7):
            for k in range(7 - i):
                part = Fraction(factorial(6 - i) * factorial(6 - k), factorial(6) * factorial(6 - i - k))
                expected[6 - i - k] += part * P[6 - i] * Q[6 - k]
        self.assertEqual(combined("free_sum", P, Q), listed(expected))
        self.assertEqual(combined("free_sum", Q, P), listed(expected))

    def test_a_power_of_x_changes_nothing(self):
        for degree in range(7):
            row = [7, -5, 11, 2, -9, 4, 3][:degree + 1]
            power = [0] * degree + [1]
            self.assertEqual(combined("free_sum", row, power), listed(row))
            self.assertEqual(combined("free_sum", power, row), listed(row))

    def test_a_single_root_shifts(self):
        for argument in (-5, 3):
            calls = [("set_roots", 0, 7, [1, -9, 4, 4, 2]), ("set_roots", 1, 3, [argument] * 5)]
            results = after_create(*calls, ("free_sum", 0, 1, 2), ("shift_roots", 0, 3, argument, 3))
            self.assertEqual(results[2], results[3])

    def test_leading_coefficients_are_multiplied(self):
        self.assertEqual(combined("free_sum", [2, 3], [5, 7]), listed([29, 21]))
        self.assertEqual(combined("free_sum", [1, 0, -2], [0, 0, 9]), listed([9, 0, -18]))


class EveryProduct(unittest.TestCase):

    def test_constants(self):
        for name in PRODUCTS:
            calls = [("set_polynomial", 0, 6, [4]), ("set_polynomial", 1, 7, [-3]), (name, 0, 1, 1)]
            self.assertEqual(last(*calls), [1, -2, 7], name)

    def test_the_order_does_not_matter(self):
        for name in PRODUCTS:
            self.assertEqual(combined(name, P, Q), combined(name, Q, P), name)

    def test_coefficients_0_within(self):
        for name in PRODUCTS[:3]:
            self.assertEqual(combined(name, [0, 5, 1], [5, 0, 1])[:5], [3, 0, 1, 0, 1], name)

    def test_the_degree_stays(self):
        for name in PRODUCTS:
            for degree in range(7):
                answer = combined(name, [0] * degree + [-1], [0] * degree + [1])
                self.assertEqual(answer[0], degree + 1, name)

    def test_the_slots_may_be_the_same(self):
        rows = {0: [1, 0, -3, 4], 1: [2, -1, 5, 1]}
        for name in PRODUCTS:
            fill = [("set_polynomial", slot, 9, row) for slot, row in rows.items()]
            for first, second in itertools.product((0, 1), repeat=2):
                apart = last(*fill, (name, first, second, 3))
                for target in (0, 1):
                    results = after_create(*fill, (name, first, second, target), ("get_polynomial", target))
                    self.assertEqual(results[2:], [apart, apart], (name, first, second, target))

    def test_only_the_target_changes(self):
        fill = [("set_polynomial", slot, 1, [slot + 1, 2, 1]) for slot in range(4)]
        slots = [("get_polynomial", slot) for slot in range(4)]
        for name in PRODUCTS:
            results = after_create(*fill, (name, 0, 2, 3), *slots)
            self.assertEqual(results[5:], [*results[:3], results[4]], name)
            self.assertNotEqual(results[4], results[3], name)

    def test_answers_are_in_lowest_terms_with_denominators_above_0(self):
        for name in PRODUCTS:
            calls = [("set_polynomial", 0, 12, [-8, 0, 6, 4]), ("set_polynomial", 1, 10, [5, 2, -4, -6])]
            numbers = last(*calls, (name, 0, 1, 2))[1:]
            coefficients = [Fraction(numbers[k], numbers[k + 1]) for k in range(0, len(numbers), 2)]
            self.assertEqual([4, *numbers], listed(coefficients), name)


class Errors(unittest.TestCase):

    def refused(self, call, fill, code):
        """Refused, and no slot is changed by it."""
        slots = [("get_polynomial", slot) for slot in range(4)]
        results = after_create(*fill, *slots, call, *slots)
        behind = results[len(fill):]
        self.assertEqual(behind[4], [code], call)
        self.assertEqual(behind[5:], behind[:4], call)

    def test_the_slots(self):
        fill = [("set_polynomial", slot, 1, [slot + 1, 1]) for slot in range(4)]
        for name in PRODUCTS:
            self.assertGreater(last(*fill, (name, 3, 3, 3))[0], 0)
            for wrong in (4, 5, 2 ** 31, NONE):
                for slots in ((wrong, 0, 0), (0, wrong, 0), (0, 0, wrong), (wrong, wrong, wrong)):
                    self.refused((name, *slots), fill, -2)

    def test_zero_polynomials(self):
        fill = [("set_polynomial", 0, 1, [2, 1]), ("set_polynomial", 1, 1, [5])]
        for name in PRODUCTS:
            for first, second in ((0, 2), (2, 0), (2, 2), (2, 3), (1, 2), (2, 1)):
                for target in (0, 2, 3):
                    self.refused((name, first, second, target), fill, -33)

    def test_different_degrees(self):
        fill = [("set_polynomial", slot, 1, [1] * (slot + 1)) for slot in range(4)]
        for name in PRODUCTS:
            for first, second in itertools.permutations(range(4), 2):
                for target in (0, 3):
                    self.refused((name, first, second, target), fill, -34)

    def test_the_degree_counts_without_zeros_at_the_end(self):
        for name in PRODUCTS:
            self.assertGreater(combined(name, [1, 2, 0, 0], [3, 4])[0], 0)
            self.assertEqual(combined(name, [1, 2, 0, 0], [3, 4, 0, 5]), [-34])

    def test_the_order(self):
        fill = [("set_polynomial", 0, 1, [2, 1]), ("set_polynomial", 1, 1, [5])]
        for name in PRODUCTS:
            for slots in ((2, 2, 4), (0, 4, 0), (4, 2, 0), (0, 1, 4), (4, 1, 0), (2, 4, 2)):
                self.refused((name, *slots), fill, -2)
            self.refused((name, 2, 0, 0), fill, -33)
            self.refused((name, 0, 1, 0), fill, -34)


if __name__ == "__main__":
    unittest.main()
