"""Long made-up sessions, held against the model; the seeds are written, so each run is the same."""

import random
import unittest
from fractions import Fraction

from model import Model, count_roots, count_roots_from, is_real_rooted
from sessions import CREATE, NUMBERS, PRODUCTS, product, run

SIGNED = [-2147483648, -1001, -1000, -999, -7, -2, -1, 0, 1, 2, 3, 10, 999, 1000, 1001, 2147483647]
UNSIGNED = [0, 1, 1, 1, 2, 3, 4, 7, 10, 999, 1000, 1001, 4294967295]
SEQUENCES = [0, 1, 2, 3, 4, 5, 5, 6, 4294967295]
BITS = [0, 1, 2, 16, 29, 30, 31, 4294967295]
NAMES = list(NUMBERS)[1:]
WITH_A_ROW = ("set_polynomial", "set_roots")
WITH_TWO_SLOTS = ("reciprocal", "derivative")
WITH_A_SLOT = ("get_polynomial", "is_real_rooted", "mean", "variance", "has_nonnegative_roots")
FLOORS = ("greatest_root", "smallest_root")


def any_call(chance):
    """A call of any kind, often a refused one."""
    name = chance.choice(NAMES)
    slot = chance.choice([0, 1, 2, 3, 4, 4294967295])
    if name == "summary":
        return (name,)
    if name in WITH_A_ROW:
        row = [chance.choice(SIGNED) for k in range(chance.choice([0, 1, 3, 6, 7, 8, 60]))]
        return (name, slot, chance.choice(UNSIGNED), row)
    if name in WITH_A_SLOT:
        return (name, slot)
    if name in FLOORS:
        return (name, slot, chance.choice(BITS))
    if name in WITH_TWO_SLOTS:
        return (name, slot, chance.randrange(5))
    if name == "apply_multiplier":
        return (name, slot, chance.randrange(5), chance.choice(SEQUENCES))
    if name in PRODUCTS:
        return (name, slot, chance.randrange(5), chance.randrange(5))
    return (name, slot, chance.randrange(5), chance.choice(SIGNED), chance.choice(UNSIGNED))


def right_row(chance, name):
    """A row within the range, mostly a long one, so that many polynomials have the same degree."""
    size = chance.choice([3, 20, 1000])
    most = 7 if name == "set_polynomial" else 6
    length = chance.choice([chance.randrange(most + 1), most])
    return [chance.randint(-size, size) for k in range(length)]


def right_call(chance):
    """A call within the ranges, which is refused at most for what the slots hold or for a large result."""
    name = chance.choice(NAMES + ["set_polynomial"] + ["set_roots"] * 3)
    slot = chance.randrange(4)
    if name == "summary":
        return (name,)
    if name in WITH_A_ROW:
        return (name, slot, chance.choice([1, 1, 2, 3, 10, 16, 997, 1000]), right_row(chance, name))
    if name in WITH_A_SLOT:
        return (name, slot)
    if name in FLOORS:
        return (name, slot, chance.randrange(31))
    if name in WITH_TWO_SLOTS:
        return (name, slot, chance.randrange(4))
    if name == "apply_multiplier":
        return (name, slot, chance.randrange(4), chance.randrange(6))
    if name in PRODUCTS:
        return (name, slot, chance.randrange(4), chance.randrange(4))
    numerator = chance.choice([-1000, -10, -3, -1, 1, 2, 5, 10, 999, 1000])
    return (name, slot, chance.randrange(4), numerator, chance.choice([1, 1, 2, 3, 10, 16, 997, 1000]))


class Sessions(unittest.TestCase):

    def compare(self, make_call, seed):
        """Answers how often each call was not refused, and which refusals there were."""
        chance = random.Random(seed)
        session = [CREATE] + [make_call(chance) for k in range(199)]
        model = Model()
        seen = {}
        for call, answer in zip(session, run(session)):
            expected = model.answer(*call)
            if call[0] in FLOORS and expected == [0]:
                self.assertEqual((len(answer), answer[0]), (2, 0), (seed, call))
                self.assertTrue(model.is_floor(*call, answer[1]), (seed, call, answer))
            else:
                self.assertEqual(answer, expected, (seed, call))
            kind = answer[0] if answer[0] < 0 else call[0]
            seen[kind] = seen.get(kind, 0) + 1
        return seen

    def test_calls_of_any_kind(self):
        seen = set()
        for seed in range(60):
            seen |= set(self.compare(any_call, seed))
        self.assertLessEqual({-2, -22, -33, -34}, seen)

    def test_calls_within_the_ranges(self):
        seen = {}
        for seed in range(1000, 1060):
            for kind, count in self.compare(right_call, seed).items():
                seen[kind] = seen.get(kind, 0) + count
        for kind in (*NAMES, -33, -34, -75):
            self.assertGreater(seen.get(kind, 0), 50, (kind, seen))


class TheModel(unittest.TestCase):

    def test_its_test_of_real_rootedness(self):
        real = [[-2, 0, 1], [1, 2, 1], [0, 1], [3, 1]]
        self.assertTrue(is_real_rooted([Fraction(5)]))
        self.assertTrue(is_real_rooted(product(*real)))
        self.assertTrue(is_real_rooted(product([-1, 1], *[[2, 1]] * 5)))
        self.assertFalse(is_real_rooted(product([1, 0, 1], *real[:2])))
        self.assertFalse(is_real_rooted(product([1, 0, 1], [1, 0, 1], [2, 2, 1])))

    def test_its_count_of_roots(self):
        polynomial = product([1, 0, 1], [-2, 0, 1], [3, 1], [3, 1])
        self.assertEqual(count_roots(polynomial), 3)
        places = {-4: 3, -3: 3, Fraction(-14, 5): 2, -2: 2, -1: 1, 0: 1, 1: 1, Fraction(3, 2): 0}
        for place, expected in places.items():
            self.assertEqual(count_roots_from(polynomial, place), expected, place)
        self.assertEqual(count_roots([Fraction(5)]), 0)
        self.assertEqual(count_roots(product([1, 0, 1], [1, 0, 2], [2, 2, 1])), 0)
        self.assertEqual(count_roots_from(product(*[[0, 1]] * 6), 0), 1)


if __name__ == "__main__":
    unittest.main()
