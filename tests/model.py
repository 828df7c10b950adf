"""The calls once more, straight from the words of the document, on Python's fractions."""

from fractions import Fraction
from itertools import combinations
from math import comb

from sessions import LARGEST, listed, product, trimmed

SLOTS = range(4)


def determinant(matrix):
    rows = [list(row) for row in matrix]
    result = Fraction(1)
    for k in range(len(rows)):
        pivot = next((i for i in range(k, len(rows)) if rows[i][k] != 0), None)
        if pivot is None:
            return Fraction(0)
        if pivot != k:
            rows[k], rows[pivot] = rows[pivot], rows[k]
            result = -result
        result *= rows[k][k]
        for i in range(k + 1, len(rows)):
            factor = rows[i][k] / rows[k][k]
            rows[i] = [a - factor * b for a, b in zip(rows[i], rows[k])]
    return result


def power_sums(polynomial, count):
    """The sums of the powers 0 to count - 1 of all complex roots, by Newton's identities."""
    degree = len(polynomial) - 1
    monic = [coefficient / polynomial[-1] for coefficient in reversed(polynomial)]
    sums = [Fraction(degree)]
    for k in range(1, count):
        total = sum((monic[i] * sums[k - i] for i in range(1, min(k, degree + 1))), Fraction(0))
        if k <= degree:
            total += k * monic[k]
        sums.append(-total)
    return sums


def is_real_rooted(polynomial):
    """By Hermite: all roots are real if no principal minor of the power sums' matrix is below 0."""
    degree = len(polynomial) - 1
    sums = power_sums(polynomial, 2 * degree)
    for size in range(1, degree + 1):
        for chosen in combinations(range(degree), size):
            if determinant([[sums[i + k] for k in chosen] for i in chosen]) < 0:
                return False
    return True


def derivative(p):
    return [k * p[k] for k in range(1, len(p))]


def result_of(name, p, c):
    n = len(p) - 1
    slope = derivative(p) + [Fraction(0)]
    if name == "shift_roots":
        return [sum(p[i] * comb(i, k) * (-c) ** (i - k) for i in range(k, n + 1)) for k in range(n + 1)]
    if name == "scale_roots":
        return [p[i] * c ** (n - i) for i in range(n + 1)]
    if name == "reciprocal":
        return p[::-1]
    if name == "derivative":
        return derivative(p)
    if name == "subtract_derivative":
        return [p[k] - c * slope[k] for k in range(n + 1)]
    turned = product([-c, 1], slope)
    return [n * p[k] - turned[k] for k in range(n + 1)]


class Model:
    """One instance; answer gives the numbers that a call answers."""

    def __init__(self):
        self.slots = None

    def answer(self, name, *arguments):
        if name == "create":
            self.slots = [[], [], [], []]
            return [0]
        if self.slots is None:
            return [-11]
        if name in ("set_polynomial", "set_roots"):
            return self.set_row(name, *arguments)
        if name in ("get_polynomial", "is_real_rooted"):
            return self.look(name, *arguments)
        return self.operate(name, *arguments)

    def set_row(self, name, slot, denominator, row):
        if slot not in SLOTS:
            return [-2]
        most = 7 if name == "set_polynomial" else 6
        if len(row) > most or denominator not in range(1, 1001) or any(n not in range(-1000, 1001) for n in row):
            return [-22]
        fractions = [Fraction(number, denominator) for number in row]
        if name == "set_roots":
            fractions = product(*[[-root, 1] for root in fractions])
        return self.store(slot, fractions)

    def look(self, name, slot):
        if slot not in SLOTS:
            return [-2]
        if name == "get_polynomial":
            return listed(self.slots[slot])
        if not self.slots[slot]:
            return [-33]
        return [1 if is_real_rooted(self.slots[slot]) else 0]

    def operate(self, name, source, target, numerator=0, denominator=1):
        if source not in SLOTS or target not in SLOTS:
            return [-2]
        if numerator not in range(-1000, 1001) or denominator not in range(1, 1001):
            return [-22]
        if name == "scale_roots" and numerator == 0:
            return [-22]
        if not self.slots[source]:
            return [-33]
        return self.store(target, result_of(name, self.slots[source], Fraction(numerator, denominator)))

    def store(self, slot, polynomial):
        kept = trimmed(polynomial)
        for coefficient in kept:
            if abs(coefficient.numerator) > LARGEST or coefficient.denominator > LARGEST:
                return [-75]
        self.slots[slot] = kept
        return listed(kept)
