"""The operators 5 to 10: ordinary inputs, named edges, and errors in their order."""

import unittest
from fractions import Fraction

from sessions import after_create, last, listed, product, trimmed

LOWEST = -2147483648
HIGHEST = 2147483647
NONE = 4294967295
WITH_ARGUMENT = ("shift_roots", "scale_roots", "subtract_derivative", "polar_derivative")
WITHOUT_ARGUMENT = ("reciprocal", "derivative")


def stored(row, *operator):
    """What the operator answers for the whole coefficients in slot 0, with slot 1 as the target."""
    name, *arguments = operator
    return last(("set_polynomial", 0, 1, row), (name, 0, 1, *arguments))


def from_roots(*roots):
    return listed(product(*[[-Fraction(root), 1] for root in roots]))


class ShiftRoots(unittest.TestCase):

    def test_ordinary(self):
        self.assertEqual(stored([-1, 0, 1], "shift_roots", 1, 1), [3, 0, 1, -2, 1, 1, 1])
        self.assertEqual(stored([1, 1], "shift_roots", 3, 1), [2, -2, 1, 1, 1])
        self.assertEqual(stored([1, 1], "shift_roots", -3, 1), [2, 4, 1, 1, 1])

    def test_the_roots_are_greater_by_the_argument(self):
        calls = [("set_roots", 0, 3, [-7, 2, 2, 0, 10, 1]), ("shift_roots", 0, 2, -5, 6)]
        thirds = [Fraction(root, 3) - Fraction(5, 6) for root in (-7, 2, 2, 0, 10, 1)]
        self.assertEqual(last(*calls), from_roots(*thirds))

    def test_a_factor_stays(self):
        self.assertEqual(stored([4, 0, -2], "shift_roots", 1, 2), listed(["7/2", 2, -2]))

    def test_the_argument_0(self):
        self.assertEqual(stored([3, 0, 5], "shift_roots", 0, 1000), listed([3, 0, 5]))

    def test_the_argument_in_lowest_terms(self):
        self.assertEqual(stored([0, 1], "shift_roots", 500, 1000), listed(["-1/2", 1]))

    def test_a_constant(self):
        self.assertEqual(stored([-6], "shift_roots", 5, 7), [1, -6, 1])

    def test_there_and_back(self):
        calls = [("set_polynomial", 0, 7, [3, -1, 0, 0, 5, 2, 9])]
        calls += [("shift_roots", 0, 0, -13, 9), ("shift_roots", 0, 0, 13, 9)]
        results = after_create(*calls)
        self.assertEqual(results[2], results[0])
        self.assertNotEqual(results[1], results[0])


class ScaleRoots(unittest.TestCase):

    def test_ordinary(self):
        self.assertEqual(stored([3, 5, 7], "scale_roots", 2, 1), listed([12, 10, 7]))
        self.assertEqual(stored([3, 5, 7], "scale_roots", -2, 6), listed(["1/3", "-5/3", 7]))

    def test_the_roots_are_multiplied(self):
        calls = [("set_roots", 0, 2, [-3, 5, 0, 8, 8, 1]), ("scale_roots", 0, 2, -7, 3)]
        scaled = [Fraction(root, 2) * Fraction(-7, 3) for root in (-3, 5, 0, 8, 8, 1)]
        self.assertEqual(last(*calls), from_roots(*scaled))

    def test_the_arguments_1_and_minus_1(self):
        self.assertEqual(stored([3, 5, 7, 2], "scale_roots", 9, 9), listed([3, 5, 7, 2]))
        self.assertEqual(stored([3, 5, 7, 2], "scale_roots", -1, 1), listed([-3, 5, -7, 2]))

    def test_a_constant(self):
        self.assertEqual(stored([-6], "scale_roots", 1000, 1), [1, -6, 1])

    def test_the_argument_0(self):
        for denominator in (0, 1, 1000, 1001):
            self.assertEqual(stored([3, 5], "scale_roots", 0, denominator), [-22])


class Reciprocal(unittest.TestCase):

    def test_ordinary(self):
        self.assertEqual(stored([1, 2, 3], "reciprocal"), listed([3, 2, 1]))
        self.assertEqual(stored([-1, 0, 0, 4], "reciprocal"), listed([4, 0, 0, -1]))

    def test_fractions(self):
        calls = [("set_polynomial", 0, 6, [2, 3, -6, 1]), ("reciprocal", 0, 3)]
        self.assertEqual(last(*calls), listed(["1/6", -1, "1/2", "1/3"]))

    def test_roots_0_disappear(self):
        self.assertEqual(stored([0, 0, 1], "reciprocal"), [1, 1, 1])
        self.assertEqual(stored([0, 2, 0, 3], "reciprocal"), listed([3, 0, 2]))
        self.assertEqual(stored([0, 0, 0, 0, 0, 0, -5], "reciprocal"), [1, -5, 1])

    def test_a_constant(self):
        self.assertEqual(stored([-6], "reciprocal"), [1, -6, 1])


class Derivative(unittest.TestCase):

    def test_ordinary(self):
        self.assertEqual(stored([9, 8, 7, 6, 5, 4, 3], "derivative"), listed([8, 14, 18, 20, 20, 18]))

    def test_lowest_terms(self):
        calls = [("set_polynomial", 0, 6, [5, 1, 1, 1]), ("derivative", 0, 1)]
        self.assertEqual(last(*calls), listed(["1/6", "1/3", "1/2"]))

    def test_degrees_1_and_0(self):
        self.assertEqual(stored([4, -3], "derivative"), [1, -3, 1])
        self.assertEqual(stored([4], "derivative"), [0])

    def test_it_comes_to_zero_and_stays_refused(self):
        calls = [("set_polynomial", 0, 1, [1, 1, 1])] + [("derivative", 0, 0)] * 4
        self.assertEqual(after_create(*calls)[1:], [[2, 1, 1, 2, 1], [1, 2, 1], [0], [-33]])


class SubtractDerivative(unittest.TestCase):

    def test_ordinary(self):
        self.assertEqual(stored([1, 2, 3], "subtract_derivative", 1, 1), listed([-1, -4, 3]))
        self.assertEqual(stored([1, 2, 3], "subtract_derivative", -1, 2), listed([2, 5, 3]))

    def test_the_argument_0(self):
        self.assertEqual(stored([1, 2, 3], "subtract_derivative", 0, 5), listed([1, 2, 3]))

    def test_a_constant(self):
        self.assertEqual(stored([7], "subtract_derivative", 1000, 1), [1, 7, 1])

    def test_coefficients_that_vanish(self):
        self.assertEqual(stored([2, 2], "subtract_derivative", 1, 1), listed([0, 2]))


class PolarDerivative(unittest.TestCase):

    def test_ordinary(self):
        self.assertEqual(stored([-1, 0, 1], "polar_derivative", 0, 1), [1, -2, 1])
        self.assertEqual(stored([1, 2, 3], "polar_derivative", 1, 1), listed([4, 8]))
        self.assertEqual(stored([1, 2, 3, 4], "polar_derivative", -1, 2), listed([2, 1, -3]))

    def test_a_constant(self):
        self.assertEqual(stored([7], "polar_derivative", 3, 1), [0])

    def test_all_roots_at_the_pole(self):
        calls = [("set_roots", 0, 3, [2, 2, 2, 2]), ("polar_derivative", 0, 1, 2, 3), ("get_polynomial", 1)]
        self.assertEqual(after_create(*calls)[1:], [[0], [0]])

    def test_the_degree_may_fall_by_more_than_1(self):
        self.assertEqual(stored([-1, 0, 0, 1], "polar_derivative", 0, 1), [1, -3, 1])

    def test_the_degree_is_that_of_the_source(self):
        calls = [("set_polynomial", 0, 1, [5, 1, 0, 0]), ("polar_derivative", 0, 1, 2, 1)]
        self.assertEqual(last(*calls), [1, 7, 1])


class EveryOperator(unittest.TestCase):

    def operators(self, numerator=3, denominator=7):
        with_argument = [(name, numerator, denominator) for name in WITH_ARGUMENT]
        return with_argument + [(name,) for name in WITHOUT_ARGUMENT]

    def test_source_and_target_may_be_the_same(self):
        for name, *arguments in self.operators():
            for slot in (0, 3):
                fill = ("set_polynomial", slot, 9, [1, 0, -3, 4, 2])
                apart = last(fill, (name, slot, 1, *arguments))
                results = after_create(fill, (name, slot, slot, *arguments), ("get_polynomial", slot))
                self.assertEqual(results[1:], [apart, apart], name)

    def test_only_the_target_changes(self):
        for name, *arguments in self.operators():
            fill = [("set_polynomial", slot, 1, [slot + 1, 2, 1]) for slot in range(4)]
            slots = [("get_polynomial", slot) for slot in range(4)]
            results = after_create(*fill, (name, 1, 3, *arguments), *slots)
            self.assertEqual(results[5:8], results[:3], name)
            self.assertEqual(results[8], results[4], name)
            self.assertNotEqual(results[4], results[3], name)

    def test_a_target_keeps_its_polynomial_when_the_source_changes(self):
        calls = [("set_polynomial", 0, 1, [1, 2]), ("subtract_derivative", 0, 1, 0, 1)]
        calls += [("reciprocal", 1, 2), ("set_polynomial", 0, 1, [9]), ("shift_roots", 1, 1, 1, 1)]
        calls += [("get_polynomial", 0), ("get_polynomial", 1), ("get_polynomial", 2)]
        expected = [listed([9]), listed([-1, 2]), listed([2, 1])]
        self.assertEqual(after_create(*calls)[5:], expected)

    def test_the_zero_polynomial_is_refused(self):
        for name, *arguments in self.operators():
            fill = [("set_polynomial", 1, 1, [5]), ("set_polynomial", 0, 1, [0, 0])]
            results = after_create(*fill, (name, 0, 1, *arguments), (name, 0, 0, *arguments), ("get_polynomial", 1))
            self.assertEqual(results[2:], [[-33], [-33], [1, 5, 1]], name)

    def test_the_slots(self):
        for name, *arguments in self.operators():
            fill = ("set_polynomial", 3, 1, [1, 1])
            self.assertGreaterEqual(last(fill, (name, 3, 3, *arguments))[0], 0, name)
            for source, target in ((4, 0), (3, 4), (NONE, 3), (3, NONE), (4, 4), (HIGHEST + 1, 3)):
                results = after_create(fill, (name, source, target, *arguments), ("get_polynomial", 3))
                self.assertEqual(results[1:], [[-2], [2, 1, 1, 1, 1]], (name, source, target))

    def test_a_missing_slot_comes_ahead_of_a_zero_polynomial(self):
        for name, *arguments in self.operators():
            self.assertEqual(last((name, 0, 4, *arguments)), [-2], name)
            self.assertEqual(last((name, 4, 0, *arguments)), [-2], name)

    def test_the_argument(self):
        wrong = [(1001, 1), (-1001, 1), (LOWEST, 1), (HIGHEST, 1), (1, 0), (1, 1001), (1, NONE), (2002, 1001)]
        right = [(1000, 1), (-1000, 1), (1, 1000), (-1000, 1000)]
        fill = [("set_polynomial", 0, 1, [1, 2, 3]), ("set_polynomial", 1, 1, [5])]
        for name in WITH_ARGUMENT:
            for argument in wrong:
                results = after_create(*fill, (name, 0, 1, *argument), ("get_polynomial", 1))
                self.assertEqual(results[2:], [[-22], [1, 5, 1]], (name, argument))
            for argument in right:
                self.assertGreater(last(*fill, (name, 0, 1, *argument))[0], 0, (name, argument))

    def test_a_missing_slot_comes_ahead_of_a_wrong_argument(self):
        for name in WITH_ARGUMENT:
            for argument in ((1001, 1), (1, 0), (1, 1001), (0, 0)):
                for source, target in ((4, 0), (0, 4), (NONE, NONE)):
                    call = (name, source, target, *argument)
                    self.assertEqual(last(("set_polynomial", 0, 1, [1, 1]), call), [-2], call)

    def test_a_wrong_argument_comes_ahead_of_a_zero_polynomial(self):
        for name in WITH_ARGUMENT:
            for argument in ((1001, 1), (-1001, 1), (1, 0), (1, 1001), (0, 0)):
                self.assertEqual(last((name, 0, 0, *argument)), [-22], (name, argument))
        self.assertEqual(last(("scale_roots", 0, 0, 0, 1)), [-22])
        self.assertEqual(last(("shift_roots", 0, 0, 0, 1)), [-33])

    def test_answers_are_in_lowest_terms_with_denominators_above_0(self):
        for name, *arguments in self.operators(-6, 4):
            answer = last(("set_polynomial", 0, 12, [-8, 0, 6, 0, -3, 4]), (name, 0, 1, *arguments))
            numbers = answer[1:]
            coefficients = [Fraction(numbers[k], numbers[k + 1]) for k in range(0, len(numbers), 2)]
            self.assertEqual(answer, listed(coefficients), name)
            self.assertEqual(coefficients, trimmed(coefficients), name)


if __name__ == "__main__":
    unittest.main()
