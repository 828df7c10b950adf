"""Long made-up sessions, held against the model; the seeds are written, so each run is the same."""

import random
import unittest
from fractions import Fraction

from model import Model, is_real_rooted
from sessions import CREATE, NUMBERS, product, run

SIGNED = [-2147483648, -1001, -1000, -999, -7, -2, -1, 0, 1, 2, 3, 10, 999, 1000, 1001, 2147483647]
UNSIGNED = [0, 1, 1, 1, 2, 3, 4, 7, 10, 999, 1000, 1001, 4294967295]
NAMES = list(NUMBERS)[1:]


def any_call(chance):
    """A call of any kind, often a refused one."""
    name = chance.choice(NAMES)
    slot = chance.choice([0, 1, 2, 3, 4, 4294967295])
    if name in ("set_polynomial", "set_roots"):
        row = [chance.choice(SIGNED) for k in range(chance.choice([0, 1, 3, 6, 7, 8, 60]))]
        return (name, slot, chance.choice(UNSIGNED), row)
    if name in ("get_polynomial", "is_real_rooted"):
        return (name, slot)
    if name in ("reciprocal", "derivative"):
        return (name, slot, chance.randrange(5))
    return (name, slot, chance.randrange(5), chance.choice(SIGNED), chance.choice(UNSIGNED))


def right_call(chance):
    """A call within the ranges, which is refused at most for a zero polynomial or a large result."""
    name = chance.choice(NAMES + ["is_real_rooted"] * 3)
    slot = chance.randrange(4)
    denominator = chance.choice([1, 1, 2, 3, 10, 16, 997, 1000])
    if name == "set_polynomial":
        size = chance.choice([3, 20, 1000])
        return (name, slot, denominator, [chance.randint(-size, size) for k in range(chance.randrange(8))])
    if name == "set_roots":
        size = chance.choice([3, 20, 1000])
        return (name, slot, denominator, [chance.randint(-size, size) for k in range(chance.randrange(7))])
    if name in ("get_polynomial", "is_real_rooted"):
        return (name, slot)
    if name in ("reciprocal", "derivative"):
        return (name, slot, chance.randrange(4))
    numerator = chance.choice([-1000, -10, -3, -1, 1, 2, 5, 10, 999, 1000])
    return (name, slot, chance.randrange(4), numerator, denominator)


class Sessions(unittest.TestCase):

    def compare(self, make_call, seed):
        chance = random.Random(seed)
        session = [CREATE] + [make_call(chance) for k in range(199)]
        model = Model()
        for call, answer in zip(session, run(session)):
            self.assertEqual(answer, model.answer(*call), (seed, call))

    def test_calls_of_any_kind(self):
        for seed in range(60):
            self.compare(any_call, seed)

    def test_calls_within_the_ranges(self):
        for seed in range(1000, 1040):
            self.compare(right_call, seed)


class TheModel(unittest.TestCase):

    def test_its_test_of_real_rootedness(self):
        real = [[-2, 0, 1], [1, 2, 1], [0, 1], [3, 1]]
        self.assertTrue(is_real_rooted([Fraction(5)]))
        self.assertTrue(is_real_rooted(product(*real)))
        self.assertTrue(is_real_rooted(product([-1, 1], *[[2, 1]] * 5)))
        self.assertFalse(is_real_rooted(product([1, 0, 1], *real[:2])))
        self.assertFalse(is_real_rooted(product([1, 0, 1], [1, 0, 1], [2, 2, 1])))


if __name__ == "__main__":
    unittest.main()
