"""mean and variance: ordinary inputs, named edges, and errors in their order."""

import unittest
from fractions import Fraction

from sessions import LARGEST, after_create, last, scaled_up

NONE = 4294967295


def moments(*calls):
    """The mean and the variance of the polynomial in slot 0 behind the calls."""
    results = after_create(*calls, ("mean", 0), ("variance", 0))[-2:]
    assert all(len(result) == 3 and result[0] == 0 for result in results), results
    fractions = [Fraction(result[1], result[2]) for result in results]
    assert [[0, f.numerator, f.denominator] for f in fractions] == results, "not in lowest terms"
    return fractions


def of_row(*row):
    return moments(("set_polynomial", 0, 1, list(row)))


class Moments(unittest.TestCase):

    def test_ordinary(self):
        results = after_create(("set_roots", 0, 1, [1, 2, 6]), ("mean", 0), ("variance", 0))
        self.assertEqual(results[1:], [[0, 3, 1], [0, 14, 3]])

    def test_rational_roots(self):
        for denominator in (1, 6, 7, 1000):
            for row in ([5], [0], [-3, 3], [1, 1, 1], [-9, 2, 2, 7], [1, 0, -1, 0, 1], [1000, -999, 5, 5, 3, -1]):
                roots = [Fraction(root, denominator) for root in row]
                mean = sum(roots) / len(roots)
                variance = sum((root - mean) ** 2 for root in roots) / len(roots)
                self.assertEqual(moments(("set_roots", 0, denominator, row)), [mean, variance], (denominator, row))

    def test_constants(self):
        self.assertEqual(after_create(("set_roots", 0, 1, []), ("mean", 0), ("variance", 0))[1:], [[0, 0, 1]] * 2)
        self.assertEqual(of_row(-7), [0, 0])
        self.assertEqual(moments(("set_polynomial", 0, 13, [1000])), [0, 0])

    def test_degree_1(self):
        self.assertEqual(of_row(3, -7), [Fraction(3, 7), 0])
        self.assertEqual(of_row(0, 5), [0, 0])

    def test_multiple_roots_count_as_often(self):
        self.assertEqual(moments(("set_roots", 0, 1, [0, 0, 0, 4])), [1, 3])
        self.assertEqual(moments(("set_roots", 0, 3, [2] * 6)), [Fraction(2, 3), 0])

    def test_complex_roots(self):
        self.assertEqual(of_row(1, 0, 1), [0, -1])
        # 2 + i, 2 - i; the squares 3 + 4i, 3 - 4i.
        self.assertEqual(of_row(5, -4, 1), [2, -1])
        self.assertEqual(of_row(-1, 0, 0, 1), [0, 0])
        # The roots 3, i, -i.
        self.assertEqual(of_row(-3, 1, -3, 1), [1, Fraction(7, 3) - 1])

    def test_a_factor_does_not_matter(self):
        for factor in (-1, 2, -50):
            self.assertEqual(of_row(*[factor * number for number in (6, -7, 0, 1)]), [0, Fraction(14, 3)])
        self.assertEqual(moments(("set_polynomial", 0, 999, [-6, 7, 0, -1])), [0, Fraction(14, 3)])

    def test_shifts_and_scales(self):
        calls = [("set_roots", 0, 1, [1, 2, 6]), ("scale_roots", 0, 0, -3, 2), ("shift_roots", 0, 0, 1, 5)]
        self.assertEqual(moments(*calls), [Fraction(-9, 2) + Fraction(1, 5), Fraction(14, 3) * Fraction(9, 4)])

    def test_large_numbers(self):
        calls = [("set_polynomial", 0, 1, [1, 1]), *scaled_up(0, *[1000] * 10)]
        self.assertEqual(moments(*calls), [-LARGEST, 0])
        calls = [("set_polynomial", 0, 1, [-1, 0, 1]), *scaled_up(0, *[1000] * 5)]
        self.assertEqual(moments(*calls), [0, LARGEST])
        calls = [("set_polynomial", 0, 1, [1, 0, 1]), *scaled_up(0, *[Fraction(1, 1000)] * 5)]
        self.assertEqual(moments(*calls), [0, Fraction(-1, LARGEST)])

    def test_answers_beyond_the_limit_of_a_polynomial(self):
        # The products of the coefficients of x + 10^30 and x / 10^30 + 1 are those of x / 10^30 + 10^30.
        calls = [("set_polynomial", 0, 1, [1, 1]), *scaled_up(0, *[1000] * 10)]
        calls += [("set_polynomial", 1, 1, [1, 1]), *scaled_up(1, *[Fraction(1, 1000)] * 10)]
        calls += [("reciprocal", 1, 1), ("hadamard_product", 0, 1, 0)]
        self.assertEqual(moments(*calls), [-LARGEST ** 2, 0])
        calls = [("set_polynomial", 0, 1, [0, 1, 1]), *scaled_up(0, *[1000] * 10)]
        self.assertEqual(moments(*calls), [Fraction(-LARGEST, 2), Fraction(LARGEST ** 2, 4)])

    def test_nothing_is_stored(self):
        calls = [("set_roots", 0, 7, [1, 2, 6]), ("mean", 0), ("variance", 0), ("get_polynomial", 0), ("summary",)]
        results = after_create(*calls)
        self.assertEqual(results[3], results[0])
        self.assertEqual(results[4], [4, 4, 0, 0, 0])


class Errors(unittest.TestCase):

    def test_the_slots(self):
        for name in ("mean", "variance"):
            self.assertEqual(last(("set_roots", 3, 1, [0]), (name, 3)), [0, 0, 1])
            for slot in (4, 5, 2 ** 31, NONE):
                self.assertEqual(last((name, slot)), [-2])

    def test_the_zero_polynomial(self):
        for name in ("mean", "variance"):
            for slot in range(4):
                self.assertEqual(last((name, slot)), [-33])
            self.assertEqual(last(("set_polynomial", 0, 1, [0, 0]), (name, 0)), [-33])


if __name__ == "__main__":
    unittest.main()
