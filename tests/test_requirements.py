"""Requirement 1: the operators 5 to 10 turn real-rooted polynomials into real-rooted ones or zero."""

import itertools
import unittest

from sessions import after_create, last

ARGUMENTS = [(0, 1), (1, 1), (-1, 1), (2, 1), (-7, 3), (1, 1000), (1000, 1), (-999, 7), (5, 2)]
ROOTS = [
    [],
    [0],
    [5],
    [0, 0],
    [1, 1],
    [-1, 1],
    [0, 1, 2],
    [2, 2, 2],
    [-3, -3, 0, 4],
    [0, 0, 0, 1],
    [-2, -1, 0, 1, 2],
    [7, 7, 7, 7, 7],
    [1, 2, 3, 4, 5, 6],
    [-9, -9, -9, 8, 8, 8],
    [0, 0, 0, 0, 0, 0],
    [-10, -1, 0, 0, 3, 100],
]


def calls_of_all_operators(source, target):
    calls = [("reciprocal", source, target), ("derivative", source, target)]
    for name in ("shift_roots", "scale_roots", "subtract_derivative", "polar_derivative"):
        for argument in ARGUMENTS:
            if name != "scale_roots" or argument[0] != 0:
                calls.append((name, source, target, *argument))
    return calls


class RealRooted(unittest.TestCase):

    def stays_real_rooted(self, setting, call):
        """Answers whether the result is zero."""
        results = after_create(setting, call, ("is_real_rooted", call[2]))
        self.assertGreaterEqual(results[1][0], 0, (setting, call))
        self.assertEqual(results[2], [-33] if results[1] == [0] else [1], (setting, call))
        return results[1] == [0]

    def test_rational_roots(self):
        zeros = []
        for roots, denominator in itertools.product(ROOTS, (1, 6)):
            for call in calls_of_all_operators(0, 1):
                if self.stays_real_rooted(("set_roots", 0, denominator, roots), call):
                    zeros.append((call[0], len(roots)))
        expected = {"derivative", "polar_derivative"}
        self.assertEqual({name for name, degree in zeros}, expected)
        self.assertIn(("derivative", 0), zeros)
        self.assertNotIn("derivative", {name for name, degree in zeros if degree > 0})

    def test_irrational_roots_and_other_leading_coefficients(self):
        for row in ([-2, 0, 3], [1, -3, 0, 1], [6, 0, -5, 0, 1], [0, 6, 0, -5, 0, 1], [-30, 0, 31, 0, -10, 0, 1]):
            setting = ("set_polynomial", 2, 7, row)
            self.assertEqual(last(setting, ("is_real_rooted", 2)), [1], row)
            for call in calls_of_all_operators(2, 2):
                self.stays_real_rooted(setting, call)

    def test_one_operator_behind_another(self):
        operators = [
            ("shift_roots", 0, 0, -3, 2),
            ("polar_derivative", 0, 0, 1, 3),
            ("reciprocal", 0, 0),
            ("subtract_derivative", 0, 0, 2, 5),
            ("scale_roots", 0, 0, -2, 3),
            ("derivative", 0, 0),
        ]
        for order in itertools.permutations(operators, 4):
            calls = [("set_roots", 0, 1, [-4, -1, 0, 2, 2, 9])]
            for operator in order:
                calls += [operator, ("is_real_rooted", 0)]
            self.assertEqual(after_create(*calls)[2::2], [[1]] * 4, order)


if __name__ == "__main__":
    unittest.main()
