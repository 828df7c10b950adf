"""greatest_root, smallest_root and has_nonnegative_roots: ordinary inputs, named edges, and errors."""

import itertools
import unittest
from fractions import Fraction
from math import floor, isqrt

from sessions import LARGEST, after_create, last, listed, product, scaled_up

NONE = 4294967295
FLOORS = ("greatest_root", "smallest_root")


def floors(bits, *calls):
    """The floors of the greatest and the smallest root in slot 0 behind the calls."""
    results = after_create(*calls, ("greatest_root", 0, bits), ("smallest_root", 0, bits))[-2:]
    assert all(len(result) == 2 and result[0] == 0 for result in results), results
    return [result[1] for result in results]


def of_roots(bits, denominator, *roots):
    return floors(bits, ("set_roots", 0, denominator, list(roots)))


def of_factors(bits, *factors):
    return floors(bits, ("set_polynomial", 0, 1, [int(number) for number in product(*factors)]))


def ceiling_of_root(number):
    root = isqrt(number)
    return root if root * root == number else root + 1


class RationalRoots(unittest.TestCase):

    def test_ordinary(self):
        self.assertEqual(of_roots(0, 1, 1, 7, -4), [7, -4])
        self.assertEqual(of_roots(2, 2, 5, -3), [10, -6])
        self.assertEqual(of_roots(4, 3, 5, 1, -7), [26, -38])

    def test_many(self):
        rows = [[3], [0], [-1], [1, 2], [-5, -5], [0, 0, 1], [-3, 0, 3], [7, 7, -7, -7], [1000, -1000, 1, 2, 3]]
        rows += [[5] * 6, [-1, -2, -3, -4, -5, -6], [1, 1, 1, 2, 2, 3], [999, 1000, 998, 997, 996, 995]]
        for row, denominator, bits in itertools.product(rows, (1, 2, 3, 7, 16, 999, 1000), (0, 1, 5, 30)):
            places = [Fraction(root, denominator) * 2 ** bits for root in row]
            expected = [floor(max(places)), floor(min(places))]
            self.assertEqual(of_roots(bits, denominator, *row), expected, (row, denominator, bits))

    def test_every_number_of_bits(self):
        for bits in range(31):
            places = [Fraction(root, 7) * 2 ** bits for root in (22, -22)]
            self.assertEqual(of_roots(bits, 7, -22, 1, 0, 22), [floor(place) for place in places], bits)

    def test_roots_that_are_floors_themselves(self):
        for root in (-1000, -8, -4, -3, -2, -1, 0, 1, 2, 3, 4, 8, 1000):
            self.assertEqual(of_roots(0, 1, root), [root, root])
            self.assertEqual(of_roots(0, 1, root, root, root), [root, root])
            self.assertEqual(of_roots(3, 8, root, root), [root, root])
            self.assertEqual(of_roots(30, 1, root, root), [root * 2 ** 30] * 2)

    def test_roots_that_are_floors_among_others(self):
        self.assertEqual(of_roots(0, 1, -2, -1, 0, 1, 2), [2, -2])
        self.assertEqual(of_roots(0, 2, -4, -3, 3, 4), [2, -2])
        self.assertEqual(of_roots(0, 2, -5, -4, 4, 5), [2, -3])
        self.assertEqual(of_roots(1, 4, 1, 2, 2, 3, 3), [1, 0])

    def test_negative_floors(self):
        self.assertEqual(of_roots(0, 2, -1), [-1, -1])
        self.assertEqual(of_roots(0, 1000, -1, -999), [-1, -1])
        self.assertEqual(of_roots(0, 1000, -999, -1000, -1), [-1, -1])
        self.assertEqual(of_roots(0, 3, -4, -3), [-1, -2])
        self.assertEqual(of_roots(1, 3, -4, -5), [-3, -4])

    def test_roots_between_0_and_the_first_place(self):
        self.assertEqual(of_roots(0, 1000, 1, 999), [0, 0])
        self.assertEqual(of_roots(9, 1000, 1), [0, 0])
        self.assertEqual(of_roots(10, 1000, 1), [1, 1])
        self.assertEqual(of_roots(30, 1000, 1, -1), [1073741, -1073742])

    def test_floors_beyond_32_bits(self):
        self.assertEqual(of_roots(30, 1, 1000, -1000), [1000 * 2 ** 30, -1000 * 2 ** 30])
        self.assertEqual(of_roots(30, 3, 1000, -1000), [1000 * 2 ** 30 // 3, -1000 * 2 ** 30 // 3])
        self.assertEqual(of_roots(30, 1, 4, -4), [2 ** 32, -2 ** 32])

    def test_multiple_roots(self):
        self.assertEqual(of_roots(4, 3, 1, 1, 1, 1, 1, 1), [5, 5])
        self.assertEqual(of_roots(4, 3, 1, 1, -1, -1, -1, 1), [5, -6])
        self.assertEqual(of_roots(4, 3, 1, 1, 0, 0, -1, -1), [5, -6])
        self.assertEqual(of_roots(0, 2, 1, 1, 2, 2, 3, 3), [1, 0])

    def test_neither_a_factor_nor_its_sign_matters(self):
        for factor in (1, -1, 7, -41):
            for denominator in (1, 1000):
                row = [factor * number for number in (6, -5, -2, 1)]
                self.assertEqual(floors(1, ("set_polynomial", 0, denominator, row)), [6, -4])


class OtherRoots(unittest.TestCase):

    def test_square_roots(self):
        for number in (1, 2, 3, 5, 99, 100, 1000):
            for bits in (0, 1, 7, 29, 30):
                square = number * 4 ** bits
                expected = [isqrt(square), -ceiling_of_root(square)]
                self.assertEqual(of_factors(bits, [-number, 0, 1]), expected, (number, bits))
                self.assertEqual(of_factors(bits, [-number, 0, 1], [0, 1], [1, 0, 1]), expected, (number, bits))

    def test_multiple_irrational_roots(self):
        self.assertEqual(of_factors(20, [-2, 0, 1], [-2, 0, 1]), [1482910, -1482911])
        self.assertEqual(of_factors(20, *[[-2, 0, 1]] * 3), [1482910, -1482911])
        self.assertEqual(of_factors(20, [-2, 0, 1], [-2, 0, 1], [-1, 1], [-3, 1]), [3 * 2 ** 20, -1482911])

    def test_complex_roots_do_not_count(self):
        self.assertEqual(of_factors(0, [300, 0, 1], [-3, 1]), [3, 3])
        self.assertEqual(of_factors(0, [50, -14, 1], [-3, 1], [5, 1]), [3, -5])
        self.assertEqual(of_factors(0, [50, 14, 1], [-3, 1], [5, 1]), [3, -5])
        self.assertEqual(of_factors(1, [1, 0, 1], [1, 0, 1], [3, 2], [3, 2]), [-3, -3])
        self.assertEqual(of_factors(3, [1, -1, 1], [1, 1, 1], [-1, 2]), [4, 4])

    def test_one_real_root(self):
        # The cube roots of 2 and of -2.
        self.assertEqual(of_factors(0, [-2, 0, 0, 1]), [1, 1])
        self.assertEqual(of_factors(0, [2, 0, 0, 1]), [-2, -2])
        for bits in (0, 10, 30):
            place = of_factors(bits, [-2, 0, 0, 1])[0]
            self.assertTrue(place ** 3 < 2 * 8 ** bits < (place + 1) ** 3)

    def test_no_root(self):
        for factors in ([[1, 0, 1]], [[1, 0, 1]] * 3, [[1, 1, 1], [5, -4, 1]], [[1, 0, 0, 0, 0, 0, 1]]):
            row = [int(number) for number in product(*factors)]
            for name, bits in itertools.product(FLOORS, (0, 30)):
                self.assertEqual(last(("set_polynomial", 0, 1, row), (name, 0, bits)), [-34])

    def test_constants(self):
        for name, number in itertools.product(FLOORS, (-1000, -1, 1, 3)):
            self.assertEqual(last(("set_polynomial", 0, 7, [number]), (name, 0, 3)), [-34])
            self.assertEqual(last(("set_roots", 0, 1, []), (name, 0, 0)), [-34])

    def test_nothing_is_stored(self):
        calls = [("set_roots", 0, 7, [1, 2, 6]), ("greatest_root", 0, 3), ("smallest_root", 0, 3)]
        results = after_create(*calls, ("get_polynomial", 0), ("summary",))
        self.assertEqual(results[3:], [results[0], [4, 4, 0, 0, 0]])


class LargeNumbers(unittest.TestCase):

    def test_large_roots(self):
        for sign in (1, -1):
            calls = [("set_polynomial", 0, 1, [sign, 1]), *scaled_up(0, *[1000] * 10)]
            for bits in (0, 30):
                self.assertEqual(floors(bits, *calls), [-sign * LARGEST * 2 ** bits] * 2)

    def test_the_largest_roots(self):
        # The products of the coefficients of x + 10^30 and -x / 10^30 + 1 are those of 10^30 - x / 10^30.
        for sign in (1, -1):
            calls = [("set_polynomial", 0, 1, [1, 1]), *scaled_up(0, *[1000] * 10)]
            calls += [("set_polynomial", 1, 1, [sign, 1]), *scaled_up(1, *[Fraction(1, 1000)] * 10)]
            calls += [("reciprocal", 1, 1), ("hadamard_product", 0, 1, 0)]
            self.assertEqual(after_create(*calls)[-1], listed([LARGEST, Fraction(sign, LARGEST)]))
            for bits in (0, 30):
                self.assertEqual(floors(bits, *calls), [-sign * LARGEST ** 2 * 2 ** bits] * 2)

    def test_small_roots(self):
        for sign, expected in ((1, -1), (-1, 0)):
            calls = [("set_polynomial", 0, 1, [sign, 1]), *scaled_up(0, *[Fraction(1, 1000)] * 10)]
            for bits in (0, 30):
                self.assertEqual(floors(bits, *calls), [expected] * 2)

    def test_large_square_roots(self):
        calls = [("set_polynomial", 0, 1, [-10, 0, 1]), *scaled_up(0, 1000, 1000, 1000, 1000, 10)]
        self.assertEqual(after_create(*calls)[-1], listed([-10 ** 27, 0, 1]))
        for bits in (0, 13, 30):
            square = 10 ** 27 * 4 ** bits
            self.assertEqual(floors(bits, *calls), [isqrt(square), -ceiling_of_root(square)])

    def test_just_beside_a_floor(self):
        # The roots 999 and 999 + sign / 10^12, and 999 with no more than that around it.
        for sign, expected in ((1, [999, 999]), (-1, [999, 998])):
            calls = [("set_polynomial", 0, 1, [0, -sign, 1]), *scaled_up(0, *[Fraction(1, 1000)] * 4)]
            calls.append(("shift_roots", 0, 0, 999, 1))
            self.assertEqual(floors(0, *calls), expected)
        calls = [("set_polynomial", 0, 1, [-1, 0, 1]), *scaled_up(0, *[Fraction(1, 1000)] * 4)]
        calls.append(("shift_roots", 0, 0, 999, 1))
        self.assertEqual(floors(0, *calls), [999, 998])
        self.assertEqual(floors(30, *calls), [999 * 2 ** 30, 999 * 2 ** 30 - 1])

    def test_degree_6_with_large_numbers(self):
        roots = [-1000, -999, 1, 998, 998, 1000]
        calls = [("set_roots", 0, 1, roots), *scaled_up(0, 100, Fraction(5, 2))]
        self.assertGreater(max(abs(number) for number in after_create(*calls)[-1]), 10 ** 29)
        self.assertEqual(floors(30, *calls), [250000 * 2 ** 30, -250000 * 2 ** 30])

    def test_degree_6_with_large_denominators(self):
        roots = [-10, -9, 1, 8, 8, 10]
        calls = [("set_roots", 0, 7, roots), *scaled_up(0, Fraction(100, 997)), ("shift_roots", 0, 0, 1, 6)]
        self.assertGreater(max(abs(number) for number in after_create(*calls)[-1]), 10 ** 26)
        places = [(Fraction(root * 100, 7 * 997) + Fraction(1, 6)) * 2 ** 30 for root in (10, -10)]
        self.assertEqual(floors(30, *calls), [floor(place) for place in places])


class NonnegativeRoots(unittest.TestCase):

    def decided(self, denominator, row):
        return last(("set_polynomial", 0, denominator, row), ("has_nonnegative_roots", 0))

    def test_ordinary(self):
        self.assertEqual(self.decided(1, [2, -3, 1]), [1])
        self.assertEqual(self.decided(1, [2, 3, 1]), [0])
        self.assertEqual(self.decided(1, [-1, 0, 1]), [0])
        self.assertEqual(self.decided(1, [1, 0, 1]), [0])

    def test_constants(self):
        for number in (-1000, -1, 1, 7):
            self.assertEqual(self.decided(7, [number]), [1])
        self.assertEqual(last(("set_roots", 0, 1, []), ("has_nonnegative_roots", 0)), [1])

    def test_rational_roots(self):
        for length in range(1, 5):
            for row in itertools.combinations_with_replacement((-3, -1, 0, 1, 4), length):
                answer = last(("set_roots", 0, 3, list(row)), ("has_nonnegative_roots", 0))
                self.assertEqual(answer, [1 if min(row) >= 0 else 0], row)

    def test_roots_0(self):
        for degree in range(1, 7):
            self.assertEqual(self.decided(1, [0] * degree + [-5]), [1])
        self.assertEqual(self.decided(1, [0, 0, -1, 1]), [1])
        self.assertEqual(self.decided(1, [0, 0, 1, 1]), [0])
        self.assertEqual(self.decided(1, [0, 0, 1, 0, 1]), [0])

    def test_complex_roots_on_the_right(self):
        # The coefficients alternate, but there are complex roots.
        self.assertEqual(self.decided(1, [5, -4, 1]), [0])
        self.assertEqual(self.decided(1, [-5, 9, -5, 1]), [0])
        self.assertEqual(self.decided(1, [int(number) for number in product(*[[2, -2, 1]] * 3)]), [0])

    def test_irrational_roots(self):
        self.assertEqual(self.decided(1, [1, -3, 1]), [1])
        self.assertEqual(self.decided(1, [1, 3, 1]), [0])
        self.assertEqual(self.decided(1, [-1, -3, 1]), [0])
        self.assertEqual(self.decided(1, [1, -6, 11, -6, 1]), [1])

    def test_neither_a_factor_nor_its_sign_matters(self):
        for factor in (-90, -1, 1, 7):
            for denominator in (1, 13, 1000):
                row = [factor * number for number in (-6, 11, -6, 1)]
                self.assertEqual(self.decided(denominator, row), [1])
                row = [factor * number for number in (6, 11, 6, 1)]
                self.assertEqual(self.decided(denominator, row), [0])

    def test_just_below_0(self):
        for sign, expected in ((1, 0), (0, 1), (-1, 1)):
            calls = [("set_polynomial", 0, 1, [sign, 1]), *scaled_up(0, *[Fraction(1, 1000)] * 10)]
            self.assertEqual(last(*calls, ("has_nonnegative_roots", 0)), [expected])

    def test_nothing_is_stored(self):
        calls = [("set_roots", 0, 7, [1, 2, 6]), ("has_nonnegative_roots", 0), ("get_polynomial", 0)]
        results = after_create(*calls)
        self.assertEqual(results[1:], [[1], results[0]])


class Errors(unittest.TestCase):

    def test_the_slots(self):
        fill = ("set_roots", 3, 1, [2])
        self.assertEqual(after_create(fill, *[(name, 3, 1) for name in FLOORS])[1:], [[0, 4], [0, 4]])
        self.assertEqual(last(fill, ("has_nonnegative_roots", 3)), [1])
        for slot in (4, 5, 2 ** 31, NONE):
            for name in FLOORS:
                self.assertEqual(last(fill, (name, slot, 1)), [-2])
            self.assertEqual(last(fill, ("has_nonnegative_roots", slot)), [-2])

    def test_the_zero_polynomial(self):
        for slot in range(4):
            for name in FLOORS:
                self.assertEqual(last((name, slot, 1)), [-33])
            self.assertEqual(last(("has_nonnegative_roots", slot)), [-33])

    def test_the_bits(self):
        for name in FLOORS:
            self.assertEqual(last(("set_roots", 0, 1, [2]), (name, 0, 0)), [0, 2])
            self.assertEqual(last(("set_roots", 0, 1, [2]), (name, 0, 30)), [0, 2 ** 31])
            for bits in (31, 32, 1000, 2 ** 31, NONE):
                self.assertEqual(last(("set_roots", 0, 1, [2]), (name, 0, bits)), [-22])

    def test_the_order(self):
        constant = ("set_roots", 1, 1, [])
        complex_roots = ("set_polynomial", 2, 1, [1, 0, 1])
        for name in FLOORS:
            calls = [(name, 4, 31), (name, 0, 31), (name, 1, 31), (name, 2, 31), (name, 1, 30), (name, 2, 30)]
            results = after_create(constant, complex_roots, *calls)
            self.assertEqual(results[2:], [[-2], [-33], [-22], [-22], [-34], [-34]], name)


if __name__ == "__main__":
    unittest.main()
