"""-75: numerators and denominators at 10^30 and just beyond it."""

import unittest
from fractions import Fraction

from sessions import LARGEST, PRODUCTS, after_create, listed, scaled_up

# Their product is the least number above 10^30 that is 10^30 times (n + 1) / n for an n that
# divides 10^30, and that has no prime factor above 1000.
JUST_BEYOND = (929, 641, 674, 565, 578, 625, 625, 625, 625, 625, 80)
BEYOND = 1000000000000152587890625000000

KEPT = ("set_polynomial", 3, 1, [7, 7])


def inverses(*numbers):
    return [Fraction(1, number) for number in numbers]


def large_cubic(sign):
    """Calls that put x^3 + sign * 10^30 into slot 0."""
    return [("set_polynomial", 0, 1, [1000 * sign, 0, 0, 1]), *scaled_up(0, 1000, 1000, 1000)]


def large_linear(sign):
    """Calls that put x + sign * 10^30 into slot 0."""
    return [("set_polynomial", 0, 1, [sign, 1]), *scaled_up(0, *[1000] * 10)]


def small_linear():
    """Calls that put x + 1 / 10^30 into slot 0."""
    return [("set_polynomial", 0, 1, [1, 1]), *scaled_up(0, *inverses(*[1000] * 10))]


class Limits(unittest.TestCase):

    def allowed(self, calls, operator, expected):
        results = after_create(KEPT, *calls, operator, ("get_polynomial", operator[2]))
        self.assertEqual(results[-2:], [listed(expected)] * 2)

    def refused(self, calls, operator):
        """Refused, and behind it the target and the source are as they were."""
        slots = [("get_polynomial", operator[2]), ("get_polynomial", operator[1])]
        results = after_create(KEPT, *calls, *slots, operator, *slots)
        self.assertEqual(results[-3], [-75])
        self.assertEqual(results[-2:], results[-5:-3])
        self.assertNotIn([-75], results[:-3])
        self.assertEqual(results[-2], listed([7, 7]))
        into_itself = (operator[0], operator[1], operator[1], *operator[3:])
        self.assertEqual(after_create(*calls, into_itself, slots[1])[-2:], [[-75], results[-1]])

    def test_how_they_are_reached(self):
        self.assertEqual(after_create(*large_cubic(-1))[-1], listed([-LARGEST, 0, 0, 1]))
        self.assertEqual(after_create(*large_linear(1))[-1], listed([LARGEST, 1]))
        self.assertEqual(after_create(*small_linear())[-1], listed([Fraction(1, LARGEST), 1]))

    def test_numerators_of_shift_roots(self):
        self.allowed(large_linear(1), ("shift_roots", 0, 3, 0, 1), [LARGEST, 1])
        self.allowed(large_linear(1), ("shift_roots", 0, 3, 1, 1), [LARGEST - 1, 1])
        self.allowed(large_linear(-1), ("shift_roots", 0, 3, -1, 1), [1 - LARGEST, 1])
        self.refused(large_linear(1), ("shift_roots", 0, 3, -1, 1))
        self.refused(large_linear(-1), ("shift_roots", 0, 3, 1, 1))
        self.refused(large_cubic(1), ("shift_roots", 0, 3, -1, 1))
        self.allowed(large_cubic(1), ("shift_roots", 0, 3, 1, 1), [LARGEST - 1, 3, -3, 1])

    def test_the_numerator_counts_in_lowest_terms(self):
        # 10^30 - 1 / 2 has the numerator 2 * 10^30 - 1.
        self.refused(large_linear(1), ("shift_roots", 0, 3, 1, 2))
        self.allowed(large_linear(1), ("shift_roots", 0, 3, 1000, 1000), [LARGEST - 1, 1])

    def test_back_from_just_below(self):
        calls = [*large_linear(1), ("shift_roots", 0, 0, 1, 1)]
        self.allowed(calls, ("shift_roots", 0, 3, -1, 1), [LARGEST, 1])
        self.refused(calls, ("shift_roots", 0, 3, -2, 1))

    def test_denominators_of_shift_roots(self):
        at_the_limit = Fraction(1, LARGEST)
        self.allowed(small_linear(), ("shift_roots", 0, 3, -1, 1000), [at_the_limit + Fraction(1, 1000), 1])
        self.refused(small_linear(), ("shift_roots", 0, 3, -1, 7))
        # The sum has the denominator 10^30, but a numerator just beyond.
        self.refused(small_linear(), ("shift_roots", 0, 3, -1, 1))
        self.allowed(small_linear(), ("shift_roots", 0, 3, 1, 1), [at_the_limit - 1, 1])

    def test_numerators_of_scale_roots(self):
        calls = [("set_polynomial", 0, 1, [1, 1]), *scaled_up(0, *[1000] * 9)]
        self.allowed(calls, ("scale_roots", 0, 3, 1000, 1), [LARGEST, 1])
        self.allowed(calls, ("scale_roots", 0, 3, -1000, 1), [-LARGEST, 1])
        beyond = [("set_polynomial", 0, 1, [JUST_BEYOND[0], 1]), *scaled_up(0, *JUST_BEYOND[1:-1])]
        self.allowed(beyond, ("scale_roots", 0, 3, 79, 1), [BEYOND // 80 * 79, 1])
        self.refused(beyond, ("scale_roots", 0, 3, JUST_BEYOND[-1], 1))
        self.refused(beyond, ("scale_roots", 0, 3, -JUST_BEYOND[-1], 1))

    def test_denominators_of_scale_roots(self):
        calls = [("set_polynomial", 0, 1, [1, 1]), *scaled_up(0, *inverses(*[1000] * 9))]
        self.allowed(calls, ("scale_roots", 0, 3, -1, 1000), [Fraction(-1, LARGEST), 1])
        row = ("set_polynomial", 0, JUST_BEYOND[0], [1, JUST_BEYOND[0]])
        beyond = [row, *scaled_up(0, *inverses(*JUST_BEYOND[1:-1]))]
        self.allowed(beyond, ("scale_roots", 0, 3, 1, 79), [Fraction(1, BEYOND // 80 * 79), 1])
        self.refused(beyond, ("scale_roots", 0, 3, 1, JUST_BEYOND[-1]))

    def test_scale_roots_to_and_fro(self):
        self.allowed(small_linear(), ("scale_roots", 0, 3, 1000, 7), [Fraction(1, 7 * 10 ** 27), 1])
        self.refused(small_linear(), ("scale_roots", 0, 3, 999, 1000))
        self.refused(large_linear(1), ("scale_roots", 0, 3, 1000, 999))
        self.allowed(large_linear(1), ("scale_roots", 0, 3, 999, 1000), [999 * 10 ** 27, 1])

    def test_reciprocal_at_the_limit(self):
        self.allowed(large_cubic(-1), ("reciprocal", 0, 3), [1, 0, 0, -LARGEST])
        self.allowed(small_linear(), ("reciprocal", 0, 3), [1, Fraction(1, LARGEST)])

    def test_derivative(self):
        turned = [*large_linear(-1), ("reciprocal", 0, 0)]
        self.allowed(turned, ("derivative", 0, 3), [-LARGEST])
        self.refused([*large_cubic(1), ("reciprocal", 0, 0)], ("derivative", 0, 3))
        half = [("set_polynomial", 0, 1, [50, 0, 1]), *scaled_up(0, 1000, 1000, 1000, 1000, 100)]
        half.append(("reciprocal", 0, 0))
        self.assertEqual(after_create(*half)[-1], listed([1, 0, LARGEST // 2]))
        self.allowed(half, ("derivative", 0, 3), [0, LARGEST])

    def test_derivative_just_beyond(self):
        # (x + 1)^2 + 10^30 / 2 in reverse order has the greatest coefficient 10^30 / 2 + 1 at x^2.
        half = [("set_polynomial", 0, 1, [50, 0, 1]), *scaled_up(0, 1000, 1000, 1000, 1000, 100)]
        shifted = [*half, ("shift_roots", 0, 0, -1, 1), ("reciprocal", 0, 0)]
        self.assertEqual(after_create(*shifted)[-1], listed([1, 2, LARGEST // 2 + 1]))
        self.refused(shifted, ("derivative", 0, 3))

    def test_derivative_makes_denominators_smaller(self):
        calls = [("set_polynomial", 0, 1, [1, 0, 1]), *scaled_up(0, *inverses(*[1000] * 5)), ("reciprocal", 0, 0)]
        self.allowed(calls, ("derivative", 0, 3), [0, Fraction(2, LARGEST)])

    def test_subtract_derivative(self):
        self.allowed(large_linear(1), ("subtract_derivative", 0, 3, 1, 1), [LARGEST - 1, 1])
        self.refused(large_linear(1), ("subtract_derivative", 0, 3, -1, 1))
        self.refused(large_linear(-1), ("subtract_derivative", 0, 3, 1, 1))
        self.refused(small_linear(), ("subtract_derivative", 0, 3, 1, 7))
        self.allowed(small_linear(), ("subtract_derivative", 0, 3, 1, 1), [Fraction(1, LARGEST) - 1, 1])

    def test_polar_derivative(self):
        self.allowed(large_linear(1), ("polar_derivative", 0, 3, -1, 1), [LARGEST - 1])
        self.allowed(large_linear(1), ("polar_derivative", 0, 3, 0, 1), [LARGEST])
        self.refused(large_linear(1), ("polar_derivative", 0, 3, 1, 1))
        self.refused(large_linear(-1), ("polar_derivative", 0, 3, -1, 1))
        self.refused(large_cubic(1), ("polar_derivative", 0, 3, 0, 1))
        self.refused(small_linear(), ("polar_derivative", 0, 3, 1, 7))
        self.allowed(small_linear(), ("polar_derivative", 0, 3, -1, 1), [Fraction(1, LARGEST) - 1])

    def test_large_numbers_that_cancel(self):
        # For 10^30 * x^2 + 1 both 2 * p and x * p' have the coefficient 2 * 10^30, their difference 0.
        calls = [("set_polynomial", 0, 1, [1, 0, 1]), *scaled_up(0, *[1000] * 5), ("reciprocal", 0, 0)]
        self.assertEqual(after_create(*calls)[-1], listed([1, 0, LARGEST]))
        self.allowed(calls, ("polar_derivative", 0, 3, 0, 1), [2])

    def test_other_errors_come_ahead(self):
        for name, argument in (("shift_roots", -1), ("subtract_derivative", -1), ("polar_derivative", 1)):
            wrong = [(name, 0, 4, argument, 1), (name, 4, 0, argument, 1), (name, 0, 1, argument, 0)]
            wrong += [(name, 0, 1, 1001 * argument, 1), (name, 1, 0, argument, 1), (name, 0, 1, argument, 1)]
            results = after_create(*large_linear(1), *wrong)
            self.assertEqual(results[-6:], [[-2], [-2], [-22], [-22], [-33], [-75]], name)
        wrong = [("scale_roots", 0, 4, 1000, 1), ("scale_roots", 0, 1, 1001, 1), ("scale_roots", 0, 1, 1000, 1)]
        self.assertEqual(after_create(*large_linear(1), *wrong)[-3:], [[-2], [-22], [-75]])
        turned = [*large_cubic(1), ("reciprocal", 0, 0)]
        wrong = [("derivative", 0, 4), ("derivative", 1, 0), ("derivative", 0, 1)]
        self.assertEqual(after_create(*turned, *wrong)[-3:], [[-2], [-33], [-75]])


def linear(slot, *factors, tail=1):
    """Calls that put x + the product of the factors and the tail into a slot."""
    return [("set_polynomial", slot, 1, [tail, 1]), *scaled_up(slot, *factors)]


def power_of_ten(exponent):
    return [1000] * (exponent // 3) + [10] * (exponent % 3)


class MultiplierLimits(unittest.TestCase):

    def case(self, calls, sequence, expected):
        """The result of apply_multiplier from slot 0, or None for -75."""
        operator = ("apply_multiplier", 0, 3, sequence)
        slots = [("get_polynomial", 3), ("get_polynomial", 0)]
        results = after_create(KEPT, *calls, operator, *slots)
        self.assertNotIn([-75], results[:-3])
        answer = [-75] if expected is None else listed(expected)
        kept = listed([7, 7]) if expected is None else answer
        self.assertEqual(results[-3:], [answer, kept, results[-4]], sequence)
        into_itself = after_create(*calls, ("apply_multiplier", 0, 0, sequence), slots[1])
        self.assertEqual(into_itself[-2:], [answer, results[-4] if expected is None else answer], sequence)

    def turned(self, *factors, degree=1):
        """Calls that put product^degree * x^degree + 1 into slot 0."""
        row = [1] + [0] * (degree - 1) + [1]
        return [("set_polynomial", 0, 1, row), *scaled_up(0, *factors), ("reciprocal", 0, 0)]

    def test_numerators(self):
        expected = [[0, LARGEST], None, [1, LARGEST], [1, LARGEST // 2], [], [0, LARGEST]]
        for sequence, row in enumerate(expected):
            self.case(self.turned(*power_of_ten(30)), sequence, row)
        expected = [None, None, [1, 0, LARGEST // 2], [1, 0, LARGEST // 16], None, None]
        for sequence, row in enumerate(expected):
            self.case(self.turned(*power_of_ten(15), degree=2), sequence, row)

    def test_numerators_that_come_to_the_limit(self):
        half = [("set_polynomial", 0, 1, [500, 1]), *scaled_up(0, *[1000] * 9), ("reciprocal", 0, 0)]
        self.case(half, 1, [1, LARGEST])
        beyond = [("set_polynomial", 0, 1, [500, 1]), *scaled_up(0, *[1000] * 9)]
        beyond += [("shift_roots", 0, 0, -1, 1), ("reciprocal", 0, 0)]
        self.case(beyond, 1, None)
        self.case(beyond, 0, [0, LARGEST // 2 + 1])
        quarter = [("set_polynomial", 0, 1, [25, 0, 1]), *scaled_up(0, *power_of_ten(14)), ("reciprocal", 0, 0)]
        self.case(quarter, 5, [0, 0, LARGEST])
        self.case(quarter, 4, [0, 0, LARGEST // 2])
        self.case(quarter, 1, [1, 0, LARGEST // 4 * 3])

    def test_denominators(self):
        limit = Fraction(1, LARGEST)
        calls = self.turned(*inverses(*power_of_ten(30)))
        for sequence, row in enumerate([[0, limit], [1, 2 * limit], [1, limit], None, [], [0, limit]]):
            self.case(calls, sequence, row)
        calls = self.turned(*inverses(*power_of_ten(15)), degree=2)
        for sequence, row in enumerate([[0, 0, 2 * limit], [1, 0, 3 * limit], None, None, [0, 0, 2 * limit]]):
            self.case(calls, sequence, row)

    def test_denominators_that_come_to_the_limit(self):
        half = self.turned(Fraction(1, 500), *inverses(*[1000] * 9))
        self.case(half, 3, [1, Fraction(1, LARGEST)])
        fifth = self.turned(Fraction(1, 5), *inverses(*power_of_ten(14)), degree=2)
        self.case(fifth, 2, [1, 0, Fraction(1, 50 * 10 ** 28)])

    def test_the_power_36(self):
        row = [1] * 7
        calls = [("set_polynomial", 0, 1, row), ("apply_multiplier", 0, 0, 3), ("apply_multiplier", 0, 0, 3)]
        expected = [Fraction(1, 2 ** (3 * k * k)) for k in range(7)]
        self.case(calls, 3, None)
        self.assertGreater(expected[6].denominator, LARGEST)
        self.case([("set_polynomial", 0, 1, row[:6]), *calls[1:]], 3, expected[:6])

    def test_the_numbers_count_in_lowest_terms(self):
        # 10^30 / 6 is 5 * 10^29 / 3.
        self.case(self.turned(*power_of_ten(10), degree=3), 2, [1, 0, 0, Fraction(LARGEST, 6)])


class ProductLimits(unittest.TestCase):

    def case(self, name, calls, expected):
        """The result for the slots 0 and 1, or None for -75."""
        slots = [("get_polynomial", slot) for slot in range(4)]
        results = after_create(KEPT, *calls, *slots, (name, 0, 1, 3), *slots)
        self.assertNotIn([-75], results[:-5])
        answer = [-75] if expected is None else listed(expected)
        kept = listed([7, 7]) if expected is None else answer
        self.assertEqual(results[-5:], [answer, *results[-9:-6], kept], name)
        into_first = after_create(*calls, slots[0], (name, 0, 1, 0), slots[0])
        self.assertEqual(into_first[-2:], [answer, into_first[-3] if expected is None else answer], name)

    def test_numerators(self):
        at = [*linear(0, *power_of_ten(15)), *linear(1, *power_of_ten(15))]
        over = [*at, ("shift_roots", 0, 0, -1, 1)]
        between = [*over, ("shift_roots", 1, 1, 1, 1)]
        for name in PRODUCTS[:3]:
            self.case(name, at, [LARGEST, 1])
            self.case(name, over, None)
            self.case(name, between, [LARGEST - 1, 1])

    def test_negative_numerators(self):
        at = [*linear(0, *power_of_ten(15)), *linear(1, *power_of_ten(15), tail=-1)]
        for name in PRODUCTS[:3]:
            self.case(name, at, [-LARGEST, 1])
            self.case(name, [*at, ("shift_roots", 1, 1, 1, 1)], None)

    def test_denominators(self):
        fifteenth = inverses(*power_of_ten(15))
        at = [*linear(0, *fifteenth), *linear(1, *fifteenth)]
        for name in PRODUCTS[:3]:
            self.case(name, at, [Fraction(1, LARGEST), 1])
            self.case(name, [*at, *scaled_up(1, Fraction(1, 3))], None)
            self.case(name, [*at, *scaled_up(1, Fraction(2, 3)), *scaled_up(0, 3)], [Fraction(2, LARGEST), 1])

    def test_the_factorial(self):
        calls = [("set_polynomial", 1, 1, [1, 0, 1])]
        calls += [("set_polynomial", 0, 1, [1, 0, 1]), *scaled_up(0, *power_of_ten(15)), ("reciprocal", 0, 0)]
        self.case("schur_product", calls, None)
        self.case("hadamard_product", calls, [1, 0, LARGEST])
        self.case("schur_szego", calls, [1, 0, LARGEST])
        calls[0] = ("set_polynomial", 1, 2, [1, 0, 1])
        self.case("schur_product", calls, [Fraction(1, 2), 0, LARGEST])

    def test_the_binomial_coefficient(self):
        # 2 * 10^30 / 2 in the middle: only the quotient counts.
        calls = [("set_polynomial", 0, 1, [0, 2, 1]), *scaled_up(0, *power_of_ten(15))]
        calls += [("set_polynomial", 1, 1, [0, 1, 1]), *scaled_up(1, *power_of_ten(15))]
        self.case("schur_szego", calls, [0, LARGEST, 1])
        self.case("hadamard_product", calls, None)
        self.case("schur_product", calls, None)
        fifteenth = inverses(*power_of_ten(15))
        calls = [("set_polynomial", 0, 1, [0, 1, 1]), *scaled_up(0, *fifteenth)]
        calls += [("set_polynomial", 1, 1, [0, 1, 1]), *scaled_up(1, *fifteenth)]
        self.case("schur_szego", calls, None)
        self.case("hadamard_product", calls, [0, Fraction(1, LARGEST), 1])
        self.case("schur_product", calls, [0, Fraction(1, LARGEST), 2])

    def test_factors_beyond_the_limit_that_cancel(self):
        calls = [*linear(0, *power_of_ten(30)), *linear(1, *inverses(*power_of_ten(30)))]
        for name in PRODUCTS[:3]:
            self.case(name, calls, [1, 1])

    def test_free_sum(self):
        at = linear(0, *power_of_ten(30))
        self.case("free_sum", [*at, ("set_polynomial", 1, 1, [0, 1])], [LARGEST, 1])
        self.case("free_sum", [*at, ("set_polynomial", 1, 1, [1, 1])], None)
        self.case("free_sum", [*at, ("set_polynomial", 1, 1, [-1, 1])], [LARGEST - 1, 1])
        self.case("free_sum", [*at, ("set_polynomial", 1, 1, [0, 2])], None)
        self.case("free_sum", [*at, *linear(1, *power_of_ten(30), tail=-1)], [0, 1])

    def test_denominators_of_free_sum(self):
        at = linear(0, *inverses(*power_of_ten(30)))
        self.case("free_sum", [*at, ("set_polynomial", 1, 1, [0, 1])], [Fraction(1, LARGEST), 1])
        self.case("free_sum", [*at, ("set_polynomial", 1, 7, [1, 7])], None)
        self.case("free_sum", [*at, ("set_polynomial", 1, 1, [-1, 1])], [Fraction(1, LARGEST) - 1, 1])

    def test_the_leading_coefficient_of_free_sum(self):
        turned = [*linear(0, *power_of_ten(15)), ("reciprocal", 0, 0)]
        turned += [*linear(1, *power_of_ten(15)), ("reciprocal", 1, 1)]
        self.case("free_sum", turned, [2 * 10 ** 15, LARGEST])
        self.case("free_sum", [*turned, ("free_sum", 1, 0, 1), *linear(0, 2, tail=1), ("reciprocal", 0, 0)], None)

    def test_other_errors_come_ahead(self):
        calls = [*linear(0, *power_of_ten(30)), ("set_polynomial", 1, 1, [1])]
        for name in PRODUCTS[:3]:
            wrong = [(name, 0, 0, 4), (name, 4, 0, 0), (name, 0, 2, 0), (name, 2, 0, 0), (name, 0, 1, 0), (name, 0, 0, 0)]
            self.assertEqual(after_create(*calls, *wrong)[-6:], [[-2], [-2], [-33], [-33], [-34], [-75]], name)
        calls = [*calls, ("reciprocal", 0, 0)]
        wrong = [("apply_multiplier", 0, 4, 1), ("apply_multiplier", 0, 0, 6), ("apply_multiplier", 2, 0, 1)]
        wrong += [("apply_multiplier", 0, 0, 1)]
        self.assertEqual(after_create(*calls, *wrong)[-4:], [[-2], [-22], [-33], [-75]])


if __name__ == "__main__":
    unittest.main()
