"""set_polynomial, set_roots, get_polynomial and summary."""

import unittest

from sessions import CREATE, after_create, last, listed, product, run

LOWEST = -2147483648
HIGHEST = 2147483647


class SetPolynomial(unittest.TestCase):

    def test_ordinary(self):
        self.assertEqual(last(("set_polynomial", 0, 1, [1, 2, 3])), [3, 1, 1, 2, 1, 3, 1])
        self.assertEqual(last(("set_polynomial", 3, 7, [-1, 0, 3])), [3, -1, 7, 0, 1, 3, 7])

    def test_lowest_terms(self):
        answer = last(("set_polynomial", 0, 12, [-8, 0, 12, 6, -24, 5]))
        self.assertEqual(answer, [6, -2, 3, 0, 1, 1, 1, 1, 2, -2, 1, 5, 12])

    def test_zeros_at_the_end_are_removed(self):
        self.assertEqual(last(("set_polynomial", 0, 5, [0, 10, 0, 0])), [2, 0, 1, 2, 1])
        self.assertEqual(last(("set_polynomial", 0, 1, [4, 0, 0, 0, 0, 0, 0])), [1, 4, 1])

    def test_the_zero_polynomial(self):
        for row in ([], [0], [0] * 7):
            with self.subTest(row=row):
                calls = [("set_polynomial", 0, 1, [1]), ("set_polynomial", 0, 9, row), ("get_polynomial", 0)]
                self.assertEqual(after_create(*calls), [[1, 1, 1], [0], [0]])

    def test_how_many_coefficients(self):
        self.assertEqual(last(("set_polynomial", 0, 1, [1] * 7)), [7] + [1, 1] * 7)
        for row in ([1] * 8, [1] * 7 + [0], [0] * 8, [0] * 60, [1] * 60):
            with self.subTest(row=row):
                self.assertEqual(last(("set_polynomial", 0, 1, row)), [-22])

    def test_the_ends_of_32_bits(self):
        for row in ([LOWEST], [HIGHEST], [LOWEST, HIGHEST] * 30, [0, 0, HIGHEST], [1, LOWEST, 1]):
            with self.subTest(row=row):
                self.assertEqual(last(("set_polynomial", 0, 1, row)), [-22])

    def test_the_denominator(self):
        expected = {0: [-22], 1: [1, 1, 1], 1000: [1, 1, 1000], 1001: [-22], HIGHEST: [-22], 4294967295: [-22]}
        for denominator, answer in expected.items():
            with self.subTest(denominator=denominator):
                self.assertEqual(last(("set_polynomial", 0, denominator, [1])), answer)

    def test_the_denominator_of_an_empty_row(self):
        for denominator in (0, 1001):
            self.assertEqual(last(("set_polynomial", 0, denominator, [])), [-22])

    def test_the_coefficients(self):
        expected = {-1001: [-22], -1000: [1, -1000, 1], 1000: [1, 1000, 1], 1001: [-22]}
        for coefficient, answer in expected.items():
            with self.subTest(coefficient=coefficient):
                self.assertEqual(last(("set_polynomial", 0, 1, [coefficient])), answer)
        for place in range(7):
            row = [1] * 7
            row[place] = -1001
            self.assertEqual(last(("set_polynomial", 0, 1, row)), [-22])

    def test_the_slots(self):
        self.assertEqual(last(("set_polynomial", 3, 1, [1])), [1, 1, 1])
        self.assertEqual(last(("set_polynomial", 4, 1, [1])), [-2])
        self.assertEqual(last(("set_polynomial", 4294967295, 1, [1])), [-2])

    def test_the_slot_is_refused_first(self):
        for denominator, row in ((0, [1]), (1001, []), (1, [1001]), (1, [0] * 8), (0, [LOWEST] * 60)):
            with self.subTest(denominator=denominator, row=row):
                self.assertEqual(last(("set_polynomial", 4, denominator, row)), [-2])

    def test_a_refused_call_changes_no_slot(self):
        filled = [("set_polynomial", slot, 1, [slot + 1]) for slot in range(4)]
        refused = [
            ("set_polynomial", 4, 1, [9]),
            ("set_polynomial", 0, 0, [9]),
            ("set_polynomial", 1, 1, [9, 1001]),
            ("set_polynomial", 2, 1, [9] * 8),
            ("set_polynomial", 3, 1001, []),
        ]
        slots = [("get_polynomial", slot) for slot in range(4)]
        results = after_create(*filled, *refused, *slots)
        self.assertEqual(results[4:9], [[-2], [-22], [-22], [-22], [-22]])
        self.assertEqual(results[9:], [[1, slot + 1, 1] for slot in range(4)])


class SetRoots(unittest.TestCase):

    def test_ordinary(self):
        self.assertEqual(last(("set_roots", 0, 1, [1, -1])), [3, -1, 1, 0, 1, 1, 1])
        self.assertEqual(last(("set_roots", 0, 1, [2, 2, 2])), [4, -8, 1, 12, 1, -6, 1, 1, 1])
        self.assertEqual(last(("set_roots", 2, 2, [1, 2, -3])), listed(product(["-1/2", 1], [-1, 1], ["3/2", 1])))

    def test_lowest_terms(self):
        self.assertEqual(last(("set_roots", 0, 6, [2, -4])), [3, -2, 9, 1, 3, 1, 1])

    def test_no_roots(self):
        calls = [("set_roots", 0, 1, []), ("get_polynomial", 0)]
        self.assertEqual(after_create(*calls), [[1, 1, 1], [1, 1, 1]])

    def test_roots_0(self):
        self.assertEqual(last(("set_roots", 0, 1000, [0] * 6)), [7] + [0, 1] * 6 + [1, 1])

    def test_how_many_roots(self):
        six = last(("set_roots", 0, 1, [1, 2, 3, 4, 5, 6]))
        self.assertEqual(six, listed([720, -1764, 1624, -735, 175, -21, 1]))
        for row in ([1] * 7, [0] * 7, [0] * 60, [1] * 60):
            with self.subTest(row=row):
                self.assertEqual(last(("set_roots", 0, 1, row)), [-22])

    def test_the_largest(self):
        answer = last(("set_roots", 0, 1, [1000] * 6))
        self.assertEqual(answer, listed(product(*[[-1000, 1]] * 6)))
        answer = last(("set_roots", 0, 1000, [-999] * 6))
        self.assertEqual(answer, listed(product(*[["999/1000", 1]] * 6)))

    def test_the_ends_of_32_bits(self):
        for row in ([LOWEST], [HIGHEST], [LOWEST, HIGHEST] * 30, [1, HIGHEST]):
            with self.subTest(row=row):
                self.assertEqual(last(("set_roots", 0, 1, row)), [-22])

    def test_the_denominator(self):
        expected = {0: [-22], 1: [2, -1, 1, 1, 1], 1000: [2, -1, 1000, 1, 1], 1001: [-22], 4294967295: [-22]}
        for denominator, answer in expected.items():
            with self.subTest(denominator=denominator):
                self.assertEqual(last(("set_roots", 0, denominator, [1])), answer)

    def test_the_denominator_of_an_empty_row(self):
        for denominator in (0, 1001):
            self.assertEqual(last(("set_roots", 0, denominator, [])), [-22])

    def test_the_roots(self):
        expected = {-1001: [-22], -1000: [2, 1000, 1, 1, 1], 1000: [2, -1000, 1, 1, 1], 1001: [-22]}
        for root, answer in expected.items():
            with self.subTest(root=root):
                self.assertEqual(last(("set_roots", 0, 1, [root])), answer)
        for place in range(6):
            row = [1] * 6
            row[place] = 1001
            self.assertEqual(last(("set_roots", 0, 1, row)), [-22])

    def test_the_slots(self):
        self.assertEqual(last(("set_roots", 3, 1, [])), [1, 1, 1])
        self.assertEqual(last(("set_roots", 4, 1, [])), [-2])
        self.assertEqual(last(("set_roots", 4294967295, 1, [])), [-2])

    def test_the_slot_is_refused_first(self):
        for denominator, row in ((0, [1]), (1001, []), (1, [1001]), (1, [0] * 7), (0, [HIGHEST] * 60)):
            with self.subTest(denominator=denominator, row=row):
                self.assertEqual(last(("set_roots", 4, denominator, row)), [-2])

    def test_a_refused_call_changes_no_slot(self):
        filled = [("set_polynomial", slot, 1, [slot + 1]) for slot in range(4)]
        refused = [
            ("set_roots", 4, 1, [9]),
            ("set_roots", 0, 0, [9]),
            ("set_roots", 1, 1, [9, 1001]),
            ("set_roots", 2, 1, [9] * 7),
            ("set_roots", 3, 1001, []),
        ]
        slots = [("get_polynomial", slot) for slot in range(4)]
        results = after_create(*filled, *refused, *slots)
        self.assertEqual(results[4:9], [[-2], [-22], [-22], [-22], [-22]])
        self.assertEqual(results[9:], [[1, slot + 1, 1] for slot in range(4)])


class GetPolynomial(unittest.TestCase):

    def test_each_slot_has_its_own(self):
        filled = [("set_polynomial", slot, 2, [0, slot + 1]) for slot in range(4)]
        slots = [("get_polynomial", slot) for slot in (3, 2, 1, 0)]
        results = run([CREATE, *filled, *slots])
        self.assertEqual(results[5:], [[2, 0, 1, 2, 1], [2, 0, 1, 3, 2], [2, 0, 1, 1, 1], [2, 0, 1, 1, 2]])

    def test_it_changes_nothing(self):
        calls = [("set_polynomial", 1, 3, [1, 2, 4])] + [("get_polynomial", 1)] * 3
        self.assertEqual(after_create(*calls), [[3, 1, 3, 2, 3, 4, 3]] * 4)

    def test_the_slots(self):
        self.assertEqual(last(("get_polynomial", 3)), [0])
        self.assertEqual(last(("get_polynomial", 4)), [-2])
        self.assertEqual(last(("get_polynomial", 4294967295)), [-2])


class Summary(unittest.TestCase):

    def test_behind_create(self):
        self.assertEqual(last(("summary",)), [4, 0, 0, 0, 0])

    def test_before_create(self):
        self.assertEqual(run([("summary",), CREATE, ("summary",)]), [[-11], [0], [4, 0, 0, 0, 0]])

    def test_each_slot_has_its_count(self):
        filled = [("set_polynomial", 0, 1, [1, 2, 3]), ("set_roots", 1, 1, []), ("set_roots", 3, 7, [0] * 6)]
        self.assertEqual(last(*filled, ("summary",)), [4, 3, 1, 0, 7])

    def test_zeros_at_the_end_do_not_count(self):
        filled = [("set_polynomial", 2, 1, [0, 0, 3, 0, 0]), ("set_polynomial", 0, 1, [0] * 7)]
        self.assertEqual(last(*filled, ("summary",)), [4, 0, 0, 3, 0])

    def test_it_follows_what_is_stored(self):
        calls = [("set_roots", 0, 1, [1, 2, 3]), ("summary",), ("derivative", 0, 3), ("summary",)]
        calls += [("derivative", 4, 3), ("summary",), ("polar_derivative", 0, 0, 1, 1), ("summary",)]
        calls += [("set_polynomial", 3, 1, []), ("summary",), CREATE, ("summary",)]
        expected = [[4, 4, 0, 0, 0], [4, 4, 0, 0, 3], [4, 4, 0, 0, 3], [4, 3, 0, 0, 3]]
        expected += [[4, 3, 0, 0, 0], [4, 0, 0, 0, 0]]
        self.assertEqual(after_create(*calls)[1::2], expected)


if __name__ == "__main__":
    unittest.main()
