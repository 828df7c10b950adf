"""The requirements 1 to 3, over many polynomials."""

import itertools
import unittest
from fractions import Fraction
from math import floor

from sessions import after_create, last

ARGUMENTS = [(0, 1), (1, 1), (-1, 1), (2, 1), (-7, 3), (1, 1000), (1000, 1), (-999, 7), (5, 2)]
ROOTS = [
    [],
    [0],
    [5],
    [0, 0],
    [1, 1],
    [-1, 1],
    [0, 1, 2],
    [2, 2, 2],
    [-3, -3, 0, 4],
    [0, 0, 0, 1],
    [-2, -1, 0, 1, 2],
    [7, 7, 7, 7, 7],
    [1, 2, 3, 4, 5, 6],
    [-9, -9, -9, 8, 8, 8],
    [0, 0, 0, 0, 0, 0],
    [-10, -1, 0, 0, 3, 100],
]
# Real-rooted, with irrational roots.
ROWS = [[-2, 0, 3], [1, -3, 0, 1], [6, 0, -5, 0, 1], [0, 6, 0, -5, 0, 1], [-30, 0, 31, 0, -10, 0, 1]]


def calls_of_all_operators(source, target):
    calls = [("reciprocal", source, target), ("derivative", source, target)]
    for name in ("shift_roots", "scale_roots", "subtract_derivative", "polar_derivative"):
        for argument in ARGUMENTS:
            if name != "scale_roots" or argument[0] != 0:
                calls.append((name, source, target, *argument))
    return calls + [("apply_multiplier", source, target, sequence) for sequence in range(6)]


class RealRooted(unittest.TestCase):

    def stays_real_rooted(self, setting, call):
        """Answers whether the result is zero."""
        results = after_create(setting, call, ("is_real_rooted", call[2]))
        self.assertGreaterEqual(results[1][0], 0, (setting, call))
        self.assertEqual(results[2], [-33] if results[1] == [0] else [1], (setting, call))
        return results[1] == [0]

    def test_rational_roots(self):
        zeros = []
        for roots, denominator in itertools.product(ROOTS, (1, 6)):
            for call in calls_of_all_operators(0, 1):
                if self.stays_real_rooted(("set_roots", 0, denominator, roots), call):
                    zeros.append((call[0], len(roots)))
        expected = {"derivative", "polar_derivative", "apply_multiplier"}
        self.assertEqual({name for name, degree in zeros}, expected)
        self.assertIn(("derivative", 0), zeros)
        self.assertNotIn("derivative", {name for name, degree in zeros if degree > 0})
        self.assertNotIn("apply_multiplier", {name for name, degree in zeros if degree > 1})

    def test_irrational_roots_and_other_leading_coefficients(self):
        for row in ROWS:
            setting = ("set_polynomial", 2, 7, row)
            self.assertEqual(last(setting, ("is_real_rooted", 2)), [1], row)
            for call in calls_of_all_operators(2, 2):
                self.stays_real_rooted(setting, call)

    def test_one_operator_behind_another(self):
        operators = [
            ("shift_roots", 0, 0, -3, 2),
            ("polar_derivative", 0, 0, 1, 3),
            ("reciprocal", 0, 0),
            ("subtract_derivative", 0, 0, 2, 5),
            ("scale_roots", 0, 0, -2, 3),
            ("derivative", 0, 0),
            ("apply_multiplier", 0, 0, 1),
            ("apply_multiplier", 0, 0, 2),
        ]
        for order in itertools.permutations(operators, 4):
            calls = [("set_roots", 0, 1, [-4, -1, 0, 2, 2, 9])]
            for operator in order:
                calls += [operator, ("is_real_rooted", 0)]
            self.assertEqual(after_create(*calls)[2::2], [[1]] * 4, order)

    def test_a_multiplier_behind_a_multiplier(self):
        for first, second in itertools.product(range(6), repeat=2):
            for row in ([-5, -2, 1, 1, 3, 40], [-1, 1, -2, 2, 7], [3, 3, 3, 3, 3, 3]):
                calls = [("set_roots", 0, 2, row), ("apply_multiplier", 0, 0, first)]
                calls += [("apply_multiplier", 0, 0, second), ("is_real_rooted", 0)]
                self.assertEqual(last(*calls), [1], (first, second, row))


def settings_of_degree(degree, nonnegative):
    """Calls that put real-rooted polynomials of this degree into slot 0."""
    numbers = (0, 1, 7) if nonnegative else (-5, 0, 2)
    settings = [("set_roots", 0, 3, list(row)) for row in itertools.combinations_with_replacement(numbers, degree)]
    if nonnegative:
        settings.append(("set_roots", 0, 1, [1, 2, 3, 10, 100, 1000][:degree]))
    else:
        settings.append(("set_roots", 0, 1, [-900, 1000, 3, -1, 2, -77][:degree]))
        settings += [("set_polynomial", 0, 7, row) for row in ROWS if len(row) == degree + 1]
    return settings


def in_slot(setting, slot):
    return (setting[0], slot, *setting[2:])


class Products(unittest.TestCase):

    def test_real_rooted_if_one_has_no_negative_root(self):
        checked = 0
        for degree in range(7):
            pairs = itertools.product(settings_of_degree(degree, False), settings_of_degree(degree, True))
            for first, second in pairs:
                calls = [in_slot(first, 0), in_slot(second, 1), ("is_real_rooted", 0), ("has_nonnegative_roots", 1)]
                for name in ("schur_szego", "schur_product", "hadamard_product"):
                    calls += [(name, 0, 1, 2), ("is_real_rooted", 2), (name, 1, 0, 3), ("is_real_rooted", 3)]
                results = after_create(*calls)
                self.assertEqual(results[2:4], [[1], [1]], (first, second))
                for place in range(4, len(results), 4):
                    self.assertEqual(results[place], results[place + 2], (first, second))
                    # The leading coefficient is a product of two that are not 0.
                    self.assertEqual(results[place][0], degree + 1, (first, second))
                    self.assertEqual(results[place + 1:place + 4:2], [[1], [1]], (first, second))
                checked += 1
        self.assertGreater(checked, 1800)

    def test_a_negative_and_a_positive_root_in_each_are_not_enough(self):
        calls = [("set_roots", 0, 1, [1, -1])]
        for name in ("schur_szego", "schur_product", "hadamard_product"):
            self.assertEqual(last(*calls, (name, 0, 0, 1), ("is_real_rooted", 1)), [0], name)


class FreeSum(unittest.TestCase):

    def check(self, first, second, bits):
        questions = [(name, slot) for slot in (0, 1, 2) for name in ("mean", "variance")]
        questions += [("greatest_root", slot, bits) for slot in (0, 1, 2)]
        calls = [in_slot(first, 0), in_slot(second, 1), ("free_sum", 0, 1, 2), ("free_sum", 1, 0, 3)]
        results = after_create(*calls, ("is_real_rooted", 2), *questions)
        self.assertEqual(results[2], results[3], (first, second))
        self.assertEqual(results[2][0], results[0][0], (first, second))
        self.assertEqual(results[4], [1], (first, second))
        moments = [Fraction(answer[1], answer[2]) for answer in results[5:11]]
        self.assertEqual(moments[4], moments[0] + moments[2], (first, second))
        self.assertEqual(moments[5], moments[1] + moments[3], (first, second))
        floors = [answer[1] for answer in results[11:]]
        # Less than 1 of each summand is lost by its floor.
        self.assertLessEqual(floors[2], floors[0] + floors[1] + 1, (first, second))
        if first[0] == second[0] == "set_roots":
            greatest = sum(Fraction(max(call[3]), call[2]) for call in (first, second))
            self.assertLessEqual(floors[2], floor(greatest * 2 ** bits), (first, second))

    def test_real_rooted_polynomials(self):
        for degree in range(1, 7):
            settings = settings_of_degree(degree, False) + settings_of_degree(degree, True)[::2]
            for first, second in itertools.combinations_with_replacement(settings, 2):
                self.check(first, second, (degree * 5 + len(settings)) % 31)

    def test_the_greatest_roots_may_just_be_added(self):
        calls = [("set_roots", 0, 3, [1, -5, 4]), ("set_roots", 1, 7, [2, 2, 2]), ("free_sum", 0, 1, 2)]
        expected = floor((Fraction(4, 3) + Fraction(2, 7)) * 2 ** 30)
        self.assertEqual(last(*calls, ("greatest_root", 2, 30)), [0, expected])

    def test_constants(self):
        for name in ("mean", "variance"):
            calls = [("set_polynomial", 0, 1, [3]), ("set_polynomial", 1, 1, [5]), ("free_sum", 0, 1, 2)]
            self.assertEqual(after_create(*calls, (name, 2))[2:], [[1, 15, 1], [0, 0, 1]])


if __name__ == "__main__":
    unittest.main()
