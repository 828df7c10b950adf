"""apply_multiplier: ordinary inputs, named edges, and errors in their order."""

import unittest
from fractions import Fraction

from sessions import after_create, last, listed

NONE = 4294967295

# The multipliers of the powers 0 to 6, worked out by hand.
MULTIPLIERS = [
    [0, 1, 2, 3, 4, 5, 6],
    [1, 2, 3, 4, 5, 6, 7],
    [1, 1, "1/2", "1/6", "1/24", "1/120", "1/720"],
    [1, "1/2", "1/16", "1/512", "1/65536", "1/33554432", "1/68719476736"],
    [0, 0, 2, 6, 12, 20, 30],
    [0, 1, 4, 9, 16, 25, 36],
]


def fractions(row):
    return [Fraction(number) for number in row]


def stored(row, sequence, denominator=1):
    return last(("set_polynomial", 0, denominator, row), ("apply_multiplier", 0, 1, sequence))


class ApplyMultiplier(unittest.TestCase):

    def test_the_multipliers(self):
        for sequence, multipliers in enumerate(MULTIPLIERS):
            self.assertEqual(stored([1] * 7, sequence), listed(multipliers), sequence)

    def test_ordinary(self):
        row = [5, -7, 0, 11, 13, -1000, 17]
        for sequence, multipliers in enumerate(MULTIPLIERS):
            expected = [a * b for a, b in zip(fractions(row), fractions(multipliers))]
            self.assertEqual(stored(row, sequence), listed(expected), sequence)
            self.assertEqual(stored(row, sequence, 6), listed([a / 6 for a in expected]), sequence)

    def test_lowest_terms(self):
        self.assertEqual(stored([1, 1, 4], 2, 6), [3, 1, 6, 1, 6, 1, 3])
        self.assertEqual(stored([6, 6, 6], 5, 4), [3, 0, 1, 3, 2, 6, 1])

    def test_constants(self):
        expected = {0: [0], 1: [1, -3, 7], 2: [1, -3, 7], 3: [1, -3, 7], 4: [0], 5: [0]}
        for sequence, answer in expected.items():
            calls = [("set_polynomial", 0, 7, [-3]), ("set_roots", 2, 1, [1]), ("apply_multiplier", 0, 2, sequence)]
            self.assertEqual(after_create(*calls, ("get_polynomial", 2))[2:], [answer, answer], sequence)

    def test_degree_1(self):
        expected = [[2, 0, 1, 5, 1], [2, 3, 1, 10, 1], [2, 3, 1, 5, 1], [2, 3, 1, 5, 2], [0], [2, 0, 1, 5, 1]]
        for sequence, answer in enumerate(expected):
            self.assertEqual(stored([3, 5], sequence), answer, sequence)

    def test_the_zero_polynomial_is_a_result_but_no_source(self):
        calls = [("set_polynomial", 0, 1, [3, 5]), ("apply_multiplier", 0, 0, 4), ("apply_multiplier", 0, 0, 4)]
        self.assertEqual(after_create(*calls)[1:], [[0], [-33]])

    def test_other_operations_in_its_words(self):
        # k: x * p'. k * (k - 1): x^2 * p''.
        calls = [("set_polynomial", 0, 3, [4, -2, 7, 1]), ("derivative", 0, 1), ("derivative", 1, 2)]
        calls += [("apply_multiplier", 0, 0, 0), ("set_polynomial", 0, 3, [4, -2, 7, 1]), ("apply_multiplier", 0, 0, 4)]
        results = after_create(*calls)
        self.assertEqual(results[3][3:], results[1][1:])
        self.assertEqual(results[5][5:], results[2][1:])

    def test_source_and_target_may_be_the_same(self):
        for sequence in range(6):
            for slot in (0, 3):
                fill = ("set_polynomial", slot, 9, [1, 0, -3, 4, 2])
                apart = last(fill, ("apply_multiplier", slot, 1, sequence))
                results = after_create(fill, ("apply_multiplier", slot, slot, sequence), ("get_polynomial", slot))
                self.assertEqual(results[1:], [apart, apart], sequence)

    def test_only_the_target_changes(self):
        fill = [("set_polynomial", slot, 1, [slot + 1, 2, 1]) for slot in range(4)]
        slots = [("get_polynomial", slot) for slot in range(4)]
        results = after_create(*fill, ("apply_multiplier", 1, 3, 1), *slots)
        self.assertEqual(results[4:], [listed([2, 4, 3]), *results[:3], listed([2, 4, 3])])


class Errors(unittest.TestCase):

    def test_the_slots(self):
        fill = ("set_polynomial", 3, 1, [1, 1])
        self.assertEqual(last(fill, ("apply_multiplier", 3, 3, 1)), [2, 1, 1, 2, 1])
        for source, target in ((4, 0), (3, 4), (NONE, 3), (3, NONE), (4, 4)):
            results = after_create(fill, ("apply_multiplier", source, target, 1), ("get_polynomial", 3))
            self.assertEqual(results[1:], [[-2], [2, 1, 1, 1, 1]], (source, target))

    def test_the_sequence(self):
        fill = ("set_polynomial", 0, 1, [1, 1])
        self.assertEqual(last(fill, ("apply_multiplier", 0, 1, 5)), [2, 0, 1, 1, 1])
        for sequence in (6, 7, 1000, 2 ** 31, NONE):
            results = after_create(fill, ("apply_multiplier", 0, 0, sequence), ("get_polynomial", 0))
            self.assertEqual(results[1:], [[-22], [2, 1, 1, 1, 1]], sequence)

    def test_the_zero_polynomial(self):
        for sequence in range(6):
            results = after_create(("set_roots", 1, 1, []), ("apply_multiplier", 0, 1, sequence), ("get_polynomial", 1))
            self.assertEqual(results[1:], [[-33], [1, 1, 1]], sequence)

    def test_the_order(self):
        self.assertEqual(last(("apply_multiplier", 4, 0, 6)), [-2])
        self.assertEqual(last(("apply_multiplier", 0, 4, 6)), [-2])
        self.assertEqual(last(("apply_multiplier", 0, 4, 1)), [-2])
        self.assertEqual(last(("apply_multiplier", 0, 0, 6)), [-22])
        self.assertEqual(last(("apply_multiplier", 0, 0, 5)), [-33])


if __name__ == "__main__":
    unittest.main()
