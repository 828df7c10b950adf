"""is_real_rooted, held against roots that are known and against discriminants."""

import itertools
import unittest
from fractions import Fraction

from sessions import LARGEST, after_create, last, listed, product, scaled_up


def decided(denominator, row):
    return last(("set_polynomial", 0, denominator, row), ("is_real_rooted", 0))


def whole(polynomial):
    return [int(coefficient) for coefficient in polynomial]


def quadratic_is_real(row):
    c, b, a = row
    return b * b - 4 * a * c >= 0


def cubic_is_real(row):
    d, c, b, a = row
    return 18 * a * b * c * d - 4 * b ** 3 * d + b * b * c * c - 4 * a * c ** 3 - 27 * a * a * d * d >= 0


class Errors(unittest.TestCase):

    def test_the_slots(self):
        self.assertEqual(last(("set_polynomial", 3, 1, [1]), ("is_real_rooted", 3)), [1])
        self.assertEqual(last(("is_real_rooted", 4)), [-2])
        self.assertEqual(last(("is_real_rooted", 4294967295)), [-2])

    def test_the_zero_polynomial(self):
        self.assertEqual(after_create(*[("is_real_rooted", slot) for slot in (0, 3, 4)]), [[-33], [-33], [-2]])
        self.assertEqual(decided(1, [0, 0, 0]), [-33])

    def test_it_changes_nothing(self):
        calls = [("set_polynomial", 1, 3, [2, 4, 6]), ("is_real_rooted", 1), ("get_polynomial", 1)]
        self.assertEqual(after_create(*calls)[1:], [[0], [3, 2, 3, 4, 3, 2, 1]])


class Decisions(unittest.TestCase):

    def test_constants(self):
        for row in ([1], [-1], [1000], [-1000, 0, 0]):
            self.assertEqual(decided(7, row), [1])

    def test_degree_1(self):
        for row in ([0, 1], [5, -3], [-1000, 1]):
            self.assertEqual(decided(9, row), [1])

    def test_all_small_quadratics(self):
        for row in itertools.product(range(-4, 5), repeat=3):
            if row[2] != 0:
                self.assertEqual(decided(3, list(row)), [1 if quadratic_is_real(row) else 0], row)

    def test_all_small_cubics(self):
        for row in itertools.product(range(-3, 4), repeat=4):
            if row[3] != 0:
                self.assertEqual(decided(1, list(row)), [1 if cubic_is_real(row) else 0], row)

    def test_all_small_products_of_two_quadratics(self):
        quadratics = [row for row in itertools.product((-2, -1, 0, 1, 2), (-2, -1, 0, 1, 2), (-1, 1, 2))]
        for first, second in itertools.combinations_with_replacement(quadratics, 2):
            expected = 1 if quadratic_is_real(first) and quadratic_is_real(second) else 0
            self.assertEqual(decided(1, whole(product(first, second))), [expected], (first, second))

    def test_products_of_three_quadratics(self):
        quadratics = [(-2, 0, 1), (1, 0, 1), (1, -2, 1), (1, 1, 1), (0, 0, -1), (-3, 1, 2), (2, 2, 1)]
        for chosen in itertools.combinations_with_replacement(quadratics, 3):
            expected = 1 if all(quadratic_is_real(row) for row in chosen) else 0
            self.assertEqual(decided(1, whole(product(*chosen))), [expected], chosen)

    def test_multiple_roots(self):
        for roots in ([3] * 6, [1, 1, 2, 2, 3, 3], [-5, -5, -5, 0, 0, 7], [1, 1], [0, 4, 4, 4]):
            answer = last(("set_roots", 2, 7, roots), ("is_real_rooted", 2))
            self.assertEqual(answer, [1], roots)

    def test_roots_0(self):
        for degree in range(1, 7):
            self.assertEqual(decided(1, [0] * degree + [-2]), [1])
        self.assertEqual(decided(1, [0, 0, -1, 0, 1]), [1])
        self.assertEqual(decided(1, [0, 0, 1, 0, 1]), [0])
        self.assertEqual(decided(1, [0, 0, 0, 0, 1, 1, 1]), [0])

    def test_irrational_roots(self):
        self.assertEqual(decided(1, [-2, 0, 1]), [1])
        self.assertEqual(decided(1, whole(product([-2, 0, 1], [-3, 0, 1], [-5, 0, 1]))), [1])
        self.assertEqual(decided(1, whole(product([-2, 0, 1], [-2, 0, 1], [-2, 0, 1]))), [1])
        self.assertEqual(decided(1, [1, -3, 0, 1]), [1])
        self.assertEqual(decided(1, [-2, 0, 0, 1]), [0])

    def test_all_roots_complex(self):
        self.assertEqual(decided(1, [1, 0, 1]), [0])
        self.assertEqual(decided(1, [1, 0, 0, 0, 1]), [0])
        self.assertEqual(decided(1, [1, 1, 1, 1, 1, 1, 1]), [0])
        self.assertEqual(decided(1, whole(product(*[[1, 0, 1]] * 3))), [0])
        self.assertEqual(decided(1, whole(product(*[[-1, 0, -1]] * 3))), [0])

    def test_some_roots_complex(self):
        self.assertEqual(decided(1, whole(product([1, 0, 1], [-1, 1]))), [0])
        self.assertEqual(decided(1, whole(product([1, 0, 1], *[[-1, 1]] * 4))), [0])
        self.assertEqual(decided(1, whole(product([1, 0, 1], [1, 0, 1], [1, 1], [1, 1]))), [0])
        self.assertEqual(decided(1, [-1, 0, 0, 0, 0, 0, 1]), [0])

    def test_neither_a_factor_nor_the_reciprocal_matters(self):
        rows = {(-1, 3, -3, 1): 1, (1, 0, 1): 0, (6, -5, -2, 1): 1, (2, 1, 4, 1): 0, (-2, 0, 1): 1}
        for row, expected in rows.items():
            self.assertEqual(decided(1, list(row)), [expected])
            self.assertEqual(decided(1000, [-7 * number for number in row]), [expected])
            self.assertEqual(decided(11, list(row[::-1])), [expected])


class LargeNumbers(unittest.TestCase):

    def near_double_root(self, sign):
        """The calls for (x - 999)^2 + sign / 10^24: its numerators come near 10^30."""
        return [
            ("set_polynomial", 0, 1, [sign, 0, 1]),
            *scaled_up(0, *[Fraction(1, 1000)] * 4),
            ("shift_roots", 0, 0, 999, 1),
            ("is_real_rooted", 0),
        ]

    def test_nearly_a_double_root(self):
        for sign, expected in ((-1, 1), (0, 1), (1, 0)):
            results = after_create(*self.near_double_root(sign))
            self.assertEqual(results[-2], listed([998001 + Fraction(sign, 10 ** 24), -1998, 1]))
            self.assertEqual(results[-1], [expected])

    def test_nearly_a_double_root_far_away(self):
        for sign, expected in ((-1, 1), (0, 1), (1, 0)):
            calls = self.near_double_root(sign)[:-1] + scaled_up(0, 1000, 1000, 1000, 1000)
            results = after_create(*calls, ("is_real_rooted", 0))
            self.assertEqual(results[-2], listed([998001 * 10 ** 24 + sign, -1998 * 10 ** 12, 1]))
            self.assertEqual(results[-1], [expected])

    def test_the_largest_coefficients(self):
        for sign, expected in ((-1, 1), (1, 0)):
            calls = [("set_polynomial", 0, 1, [sign, 0, 1]), *scaled_up(0, *[1000] * 5)]
            results = after_create(*calls, ("is_real_rooted", 0))
            self.assertEqual(results[-2:], [[3, sign * LARGEST, 1, 0, 1, 1, 1], [expected]])

    def test_the_smallest_coefficients(self):
        for sign, expected in ((-1, 1), (1, 0)):
            calls = [("set_polynomial", 0, 1, [sign, 0, 1]), *scaled_up(0, *[Fraction(1, 1000)] * 5)]
            results = after_create(*calls, ("is_real_rooted", 0))
            self.assertEqual(results[-2:], [[3, sign, LARGEST, 0, 1, 1, 1], [expected]])

    def test_degree_6_with_large_numbers(self):
        roots = [-1000, -999, 1, 998, 998, 1000]
        calls = [("set_roots", 0, 1, roots), *scaled_up(0, 100, Fraction(5, 2)), ("is_real_rooted", 0)]
        results = after_create(*calls)
        self.assertEqual(results[-2], listed(product(*[[-250 * root, 1] for root in roots])))
        self.assertGreater(max(abs(number) for number in results[-2]), 10 ** 29)
        self.assertEqual(results[-1], [1])

    def test_degree_6_with_large_numbers_and_complex_roots(self):
        factors = [[-10, 1], [5, 1], [-5, 1], [3, 1], [1, -1, 1]]
        calls = [("set_polynomial", 0, 1, whole(product(*factors))), *scaled_up(0, 1000, 22)]
        results = after_create(*calls, ("is_real_rooted", 0))
        self.assertGreater(max(abs(number) for number in results[-2]), 10 ** 28)
        self.assertEqual(results[-1], [0])


if __name__ == "__main__":
    unittest.main()
