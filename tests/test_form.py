"""The form of the list of calls and of what is given back; create and -11."""

import unittest

from rootkeepers.operators import answers
from sessions import CREATE, after_create, encoded, run, split

BEHIND_CREATE = [
    ("set_polynomial", 0, 1, [1, 2]),
    ("set_roots", 0, 1, [1, 2]),
    ("get_polynomial", 0),
    ("is_real_rooted", 0),
    ("shift_roots", 0, 1, 1, 1),
    ("scale_roots", 0, 1, 1, 1),
    ("reciprocal", 0, 1),
    ("derivative", 0, 1),
    ("subtract_derivative", 0, 1, 1, 1),
    ("polar_derivative", 0, 1, 1, 1),
    ("apply_multiplier", 0, 1, 1),
    ("schur_szego", 0, 0, 1),
    ("schur_product", 0, 0, 1),
    ("hadamard_product", 0, 0, 1),
    ("free_sum", 0, 0, 1),
    ("mean", 0),
    ("variance", 0),
    ("greatest_root", 0, 4),
    ("smallest_root", 0, 4),
    ("has_nonnegative_roots", 0),
    ("summary",),
]

WRONG_TOO = [
    ("set_polynomial", 4, 0, [1001] * 60),
    ("set_polynomial", 0, 1, []),
    ("set_roots", 4, 0, [1001] * 60),
    ("set_roots", 0, 1, []),
    ("get_polynomial", 4),
    ("is_real_rooted", 4294967295),
    ("shift_roots", 4, 0, 1001, 0),
    ("scale_roots", 0, 4, 0, 0),
    ("reciprocal", 4, 4),
    ("derivative", 4, 4),
    ("subtract_derivative", 0, 0, -1001, 1),
    ("polar_derivative", 0, 0, 1, 1001),
    ("apply_multiplier", 4, 4, 6),
    ("apply_multiplier", 0, 0, 6),
    ("schur_szego", 0, 0, 4),
    ("schur_product", 0, 4, 0),
    ("hadamard_product", 4, 0, 0),
    ("free_sum", 4, 4, 4),
    ("mean", 4),
    ("variance", 4294967295),
    ("greatest_root", 4, 31),
    ("greatest_root", 0, 31),
    ("smallest_root", 4, 31),
    ("smallest_root", 0, 4294967295),
    ("has_nonnegative_roots", 4),
]


class TheList(unittest.TestCase):

    def test_the_examples_of_the_document(self):
        session = [
            (CREATE, [0]),
            (("set_roots", 0, 1, [1, -1]), [3, -1, 1, 0, 1, 1, 1]),
            (("shift_roots", 0, 1, 1, 1), [3, 0, 1, -2, 1, 1, 1]),
            (("free_sum", 0, 0, 2), [3, -2, 1, 0, 1, 1, 1]),
            (("variance", 0), [0, 1, 1]),
            (("variance", 2), [0, 2, 1]),
            (("greatest_root", 2, 4), [0, 22]),
            (("schur_szego", 0, 0, 3), [3, 1, 1, 0, 1, 1, 1]),
            (("is_real_rooted", 3), [0]),
            (("apply_multiplier", 0, 3, 1), [3, -1, 1, 0, 1, 3, 1]),
            (("polar_derivative", 0, 3, 0, 1), [1, -2, 1]),
            (("free_sum", 0, 3, 2), [-34]),
        ]
        for length in range(1, len(session) + 1):
            results = run([call for call, expected in session[:length]])
            self.assertEqual(results, [expected for call, expected in session[:length]])

    def test_the_examples_as_one_list(self):
        calls = [0, 2, 0, 1, 2, 1, -1, 5, 0, 1, 1, 1, 15, 0, 0, 2, 17, 0, 17, 2, 18, 2, 4, 12, 0, 0, 3]
        calls += [4, 3, 11, 0, 3, 1, 10, 0, 3, 0, 1, 15, 0, 3, 2]
        expected = [1, 0, 7, 3, -1, 1, 0, 1, 1, 1, 7, 3, 0, 1, -2, 1, 1, 1, 7, 3, -2, 1, 0, 1, 1, 1]
        expected += [3, 0, 1, 1, 3, 0, 2, 1, 2, 0, 22, 7, 3, 1, 1, 0, 1, 1, 1, 1, 0]
        expected += [7, 3, -1, 1, 0, 1, 3, 1, 3, 1, -2, 1, 1, -34]
        self.assertEqual(answers(calls), expected)

    def test_the_numbers_as_they_stand(self):
        calls = [0, 2, 0, 1, 2, 1, -1, 5, 0, 1, 1, 1, 3, 3, 3, 4, 4, 0]
        expected = [1, 0, 7, 3, -1, 1, 0, 1, 1, 1, 7, 3, 0, 1, -2, 1, 1, 1, 1, 0, 1, -2, 1, 1]
        self.assertEqual(answers(calls), expected)

    def test_an_error_is_its_code_alone(self):
        calls = [3, 0, 0, 3, 4, 1, 0, 0, 0, 4, 0, 2, 0, 1, 0, 18, 0, 0]
        self.assertEqual(answers(calls), [1, -11, 1, 0, 1, -2, 1, -22, 1, -33, 3, 1, 1, 1, 1, -34])

    def test_how_many_numbers_each_call_takes(self):
        # Each call is followed by summary, which would be misread if too few or too many were taken.
        for call in BEHIND_CREATE:
            with self.subTest(call=call):
                results = split(answers(encoded([CREATE, BEHIND_CREATE[0], call]) + [21]))
                self.assertEqual(len(results), 4)
                self.assertEqual(results[-1][0], 4)
                self.assertEqual(len(results[-1]), 5)

    def test_later_numbers_may_be_below_0_or_beyond_32_bits(self):
        session = [CREATE, ("set_roots", 0, 1, [-1000]), ("greatest_root", 0, 30), ("mean", 0)]
        self.assertEqual(run(session)[2:], [[0, -1000 * 2 ** 30], [0, -1000, 1]])

    def test_empty_rows(self):
        calls = [0, 1, 0, 1, 0, 2, 1, 1, 0, 3, 1]
        self.assertEqual(answers(calls), [1, 0, 1, 0, 3, 1, 1, 1, 3, 1, 1, 1])

    def test_a_row_is_passed_over_whole_when_its_call_is_refused(self):
        long_row = list(range(60))
        session = [("set_polynomial", 4, 0, long_row), ("set_roots", 0, 1, long_row), ("get_polynomial", 0)]
        self.assertEqual(run(session), [[-11], [-11], [-11]])
        self.assertEqual(after_create(*session), [[-2], [-22], [0]])

    def test_one_call_alone(self):
        self.assertEqual(answers([0]), [1, 0])
        self.assertEqual(answers([4, 0]), [1, -11])

    def test_two_hundred_calls(self):
        session = [CREATE, ("set_polynomial", 3, 1, [0, 1])] + [("shift_roots", 3, 3, -1, 1)] * 198
        results = run(session)
        self.assertEqual(len(results), 200)
        self.assertEqual(results[2:], [[2, k, 1, 1, 1] for k in range(1, 199)])

    def test_two_hundred_calls_with_long_rows(self):
        calls = encoded([CREATE] + [("set_roots", 0, 1, [-2147483648, 2147483647] * 30)] * 199)
        self.assertLessEqual(len(calls), 12800)
        self.assertEqual(answers(calls), [1, 0] + [1, -22] * 199)

    def test_what_is_handed_in_is_not_changed(self):
        calls = encoded([CREATE, *BEHIND_CREATE, *WRONG_TOO])
        before = list(calls)
        given_back = answers(calls)
        self.assertEqual(calls, before)
        self.assertIsNot(given_back, calls)

    def test_nothing_is_kept_from_one_time_to_the_next(self):
        calls = encoded([CREATE, *BEHIND_CREATE, *WRONG_TOO])
        first_time = answers(calls)
        copy_of_it = list(first_time)
        self.assertEqual(answers([3, 0]), [1, -11])
        self.assertEqual(answers([0, 3, 0]), [1, 0, 1, 0])
        self.assertEqual(answers(calls), copy_of_it)
        first_time.clear()
        self.assertEqual(answers(calls), copy_of_it)

    def test_every_number_is_a_plain_whole_number(self):
        given_back = answers(encoded([CREATE, *BEHIND_CREATE, *WRONG_TOO]))
        self.assertIs(type(given_back), list)
        self.assertEqual({type(number) for number in given_back}, {int})


class Create(unittest.TestCase):

    def test_it_answers_0(self):
        self.assertEqual(run([CREATE]), [[0]])
        self.assertEqual(run([CREATE, CREATE]), [[0], [0]])

    def test_every_slot_is_zero_behind_it(self):
        slots = [("get_polynomial", slot) for slot in range(4)]
        self.assertEqual(after_create(*slots), [[0]] * 4)

    def test_a_second_create_sets_all_slots_to_zero(self):
        filled = [("set_polynomial", slot, 1, [slot + 1]) for slot in range(4)]
        slots = [("get_polynomial", slot) for slot in range(4)]
        results = after_create(*filled, *slots, CREATE, *slots, *filled)
        ones = [[1, slot + 1, 1] for slot in range(4)]
        self.assertEqual(results, ones + ones + [[0]] + [[0]] * 4 + ones)

    def test_each_call_before_create_is_refused(self):
        for call in BEHIND_CREATE + WRONG_TOO:
            with self.subTest(call=call):
                self.assertEqual(run([call]), [[-11]])

    def test_a_call_before_create_stores_nothing(self):
        results = run([("set_polynomial", 0, 1, [1]), CREATE, ("get_polynomial", 0)])
        self.assertEqual(results, [[-11], [0], [0]])

    def test_each_call_is_answered_otherwise_behind_create(self):
        for call in BEHIND_CREATE + WRONG_TOO:
            with self.subTest(call=call):
                self.assertNotEqual(run([CREATE, call])[1], [-11])

    def test_before_create_the_answers_are_still_one_a_call(self):
        self.assertEqual(split(answers(encoded(BEHIND_CREATE))), [[-11]] * len(BEHIND_CREATE))


if __name__ == "__main__":
    unittest.main()
