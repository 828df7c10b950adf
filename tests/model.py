"""The calls once more, straight from the words of the document, on Python's fractions."""

from fractions import Fraction
from itertools import combinations
from math import comb, factorial

from sessions import LARGEST, PRODUCTS, listed, product, trimmed

SLOTS = range(4)


def determinant(matrix):
    rows = [list(row) for row in matrix]
    result = Fraction(1)
    for k in range(len(rows)):
        pivot = next((i for i in range(k, len(rows)) if rows[i][k] != 0), None)
        if pivot is None:
            return Fraction(0)
        if pivot != k:
            rows[k], rows[pivot] = rows[pivot], rows[k]
            result = -result
        result *= rows[k][k]
        for i in range(k + 1, len(rows)):
            factor = rows[i][k] / rows[k][k]
            rows[i] = [a - factor * b for a, b in zip(rows[i], rows[k])]
    return result


def power_sums(polynomial, count):
    """The sums of the powers 0 to count - 1 of all complex roots, by Newton's identities."""
    degree = len(polynomial) - 1
    monic = [coefficient / polynomial[-1] for coefficient in reversed(polynomial)]
    sums = [Fraction(degree)]
    for k in range(1, count):
        total = sum((monic[i] * sums[k - i] for i in range(1, min(k, degree + 1))), Fraction(0))
        if k <= degree:
            total += k * monic[k]
        sums.append(-total)
    return sums


def is_real_rooted(polynomial):
    """By Hermite: all roots are real if no principal minor of the power sums' matrix is below 0."""
    degree = len(polynomial) - 1
    sums = power_sums(polynomial, 2 * degree)
    for size in range(1, degree + 1):
        for chosen in combinations(range(degree), size):
            if determinant([[sums[i + k] for k in chosen] for i in chosen]) < 0:
                return False
    return True


def signature(matrix):
    """How many more squares with a factor above 0 than below 0 a quadratic form has (Sylvester)."""
    rows = [list(row) for row in matrix]
    result = 0
    while rows:
        size = range(len(rows))
        pivot = next((i for i in size if rows[i][i] != 0), None)
        if pivot is None:
            mixed = next(((i, k) for i in size for k in size if rows[i][k] != 0), None)
            if mixed is None:
                return result
            pivot, other = mixed
            rows[pivot] = [a + b for a, b in zip(rows[pivot], rows[other])]
            for row in rows:
                row[pivot] += row[other]
        base = rows[pivot]
        result += 1 if base[pivot] > 0 else -1
        rest = [i for i in size if i != pivot]
        rows = [[rows[i][k] - rows[i][pivot] * base[k] / base[pivot] for k in rest] for i in rest]
    return result


def value(polynomial, place):
    return sum((coefficient * place ** k for k, coefficient in enumerate(polynomial)), Fraction(0))


def count_roots(polynomial):
    """By Hermite: the number of different real roots."""
    degree = len(polynomial) - 1
    sums = power_sums(polynomial, 2 * degree)
    return signature([[sums[i + k] for k in range(degree)] for i in range(degree)])


def count_roots_from(polynomial, place):
    """The number of different real roots that are not below the place."""
    degree = len(polynomial) - 1
    sums = power_sums(polynomial, 2 * degree + 1)
    moved = [sums[k + 1] - place * sums[k] for k in range(2 * degree)]
    above_less_below = signature([[moved[i + k] for k in range(degree)] for i in range(degree)])
    at = 1 if value(polynomial, place) == 0 else 0
    return (count_roots(polynomial) - at + above_less_below) // 2 + at


def multiplier(sequence, k):
    return [k, k + 1, Fraction(1, factorial(k)), Fraction(1, 2 ** (k * k)), k * (k - 1), k * k][sequence]


def free_sum(p, q):
    """As the words tell it: each derivative of p, times a derivative of q at 0."""
    n = len(p) - 1
    p_derivatives, q_derivatives = [p], [q]
    for k in range(n):
        p_derivatives.append(derivative(p_derivatives[-1]))
        q_derivatives.append(derivative(q_derivatives[-1]))
    total = [Fraction(0)] * (n + 1)
    for k in range(n + 1):
        for power, coefficient in enumerate(p_derivatives[k]):
            total[power] += coefficient * q_derivatives[n - k][0]
    return [coefficient / factorial(n) for coefficient in total]


def product_of(name, p, q):
    n = len(p) - 1
    if name == "schur_szego":
        return [p[k] * q[k] / comb(n, k) for k in range(n + 1)]
    if name == "schur_product":
        return [p[k] * q[k] * factorial(k) for k in range(n + 1)]
    if name == "hadamard_product":
        return [p[k] * q[k] for k in range(n + 1)]
    return free_sum(p, q)


def moment(name, p):
    n = len(p) - 1
    if n == 0:
        return Fraction(0)
    sums = power_sums(p, 3)
    if name == "mean":
        return sums[1] / n
    return sums[2] / n - (sums[1] / n) ** 2


def derivative(p):
    return [k * p[k] for k in range(1, len(p))]


def result_of(name, p, c):
    n = len(p) - 1
    slope = derivative(p) + [Fraction(0)]
    if name == "shift_roots":
        return [sum(p[i] * comb(i, k) * (-c) ** (i - k) for i in range(k, n + 1)) for k in range(n + 1)]
    if name == "scale_roots":
        return [p[i] * c ** (n - i) for i in range(n + 1)]
    if name == "reciprocal":
        return p[::-1]
    if name == "derivative":
        return derivative(p)
    if name == "subtract_derivative":
        return [p[k] - c * slope[k] for k in range(n + 1)]
    turned = product([-c, 1], slope)
    return [n * p[k] - turned[k] for k in range(n + 1)]


class Model:
    """One instance; answer gives the numbers that a call answers."""

    def __init__(self):
        self.slots = None

    def answer(self, name, *arguments):
        """Of greatest_root and smallest_root the 0 alone; is_floor tells of the floor."""
        if name == "create":
            self.slots = [[], [], [], []]
            return [0]
        if self.slots is None:
            return [-11]
        if name == "summary":
            return [4] + [len(polynomial) for polynomial in self.slots]
        if name in ("set_polynomial", "set_roots"):
            return self.set_row(name, *arguments)
        if name in ("get_polynomial", "is_real_rooted", "mean", "variance", "has_nonnegative_roots"):
            return self.look(name, *arguments)
        if name in ("greatest_root", "smallest_root"):
            return self.look_for_root(*arguments)
        if name == "apply_multiplier":
            return self.multiply(*arguments)
        if name in PRODUCTS:
            return self.combine(name, *arguments)
        return self.operate(name, *arguments)

    def set_row(self, name, slot, denominator, row):
        if slot not in SLOTS:
            return [-2]
        most = 7 if name == "set_polynomial" else 6
        if len(row) > most or denominator not in range(1, 1001) or any(n not in range(-1000, 1001) for n in row):
            return [-22]
        fractions = [Fraction(number, denominator) for number in row]
        if name == "set_roots":
            fractions = product(*[[-root, 1] for root in fractions])
        return self.store(slot, fractions)

    def look(self, name, slot):
        if slot not in SLOTS:
            return [-2]
        polynomial = self.slots[slot]
        if name == "get_polynomial":
            return listed(polynomial)
        if not polynomial:
            return [-33]
        if name in ("mean", "variance"):
            result = moment(name, polynomial)
            return [0, result.numerator, result.denominator]
        right = is_real_rooted(polynomial)
        if name == "has_nonnegative_roots" and count_roots_from(polynomial, 0) < count_roots(polynomial):
            right = False
        return [1 if right else 0]

    def look_for_root(self, slot, bits):
        if slot not in SLOTS:
            return [-2]
        if not self.slots[slot]:
            return [-33]
        if bits > 30:
            return [-22]
        return [0] if count_roots(self.slots[slot]) > 0 else [-34]

    def is_floor(self, name, slot, bits, floor):
        """Whether the root is in the place floor / 2^bits or above it, but not at the next one."""
        polynomial = self.slots[slot]
        wanted = 1 if name == "greatest_root" else count_roots(polynomial)
        here = count_roots_from(polynomial, Fraction(floor, 2 ** bits))
        return here >= wanted > count_roots_from(polynomial, Fraction(floor + 1, 2 ** bits))

    def multiply(self, source, target, sequence):
        if source not in SLOTS or target not in SLOTS:
            return [-2]
        if sequence > 5:
            return [-22]
        polynomial = self.slots[source]
        if not polynomial:
            return [-33]
        return self.store(target, [polynomial[k] * multiplier(sequence, k) for k in range(len(polynomial))])

    def combine(self, name, first, second, target):
        if any(slot not in SLOTS for slot in (first, second, target)):
            return [-2]
        p, q = self.slots[first], self.slots[second]
        if not p or not q:
            return [-33]
        if len(p) != len(q):
            return [-34]
        return self.store(target, product_of(name, p, q))

    def operate(self, name, source, target, numerator=0, denominator=1):
        if source not in SLOTS or target not in SLOTS:
            return [-2]
        if numerator not in range(-1000, 1001) or denominator not in range(1, 1001):
            return [-22]
        if name == "scale_roots" and numerator == 0:
            return [-22]
        if not self.slots[source]:
            return [-33]
        return self.store(target, result_of(name, self.slots[source], Fraction(numerator, denominator)))

    def store(self, slot, polynomial):
        kept = trimmed(polynomial)
        for coefficient in kept:
            if abs(coefficient.numerator) > LARGEST or coefficient.denominator > LARGEST:
                return [-75]
        self.slots[slot] = kept
        return listed(kept)
