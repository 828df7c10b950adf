"""Help for the tests: sessions written by the calls' names, and polynomials of fractions."""

from fractions import Fraction

from rootkeepers.operators import answers

NUMBERS = {
    "create": 0,
    "set_polynomial": 1,
    "set_roots": 2,
    "get_polynomial": 3,
    "is_real_rooted": 4,
    "shift_roots": 5,
    "scale_roots": 6,
    "reciprocal": 7,
    "derivative": 8,
    "subtract_derivative": 9,
    "polar_derivative": 10,
    "apply_multiplier": 11,
    "schur_szego": 12,
    "schur_product": 13,
    "hadamard_product": 14,
    "free_sum": 15,
    "mean": 16,
    "variance": 17,
    "greatest_root": 18,
    "smallest_root": 19,
    "has_nonnegative_roots": 20,
    "summary": 21,
}

PRODUCTS = ("schur_szego", "schur_product", "hadamard_product", "free_sum")

LARGEST = 10 ** 30
CREATE = ("create",)


def encoded(session):
    """The whole numbers of a list of calls, each a tuple of a name and its arguments."""
    numbers = []
    for name, *arguments in session:
        numbers.append(NUMBERS[name])
        for argument in arguments:
            if isinstance(argument, list):
                numbers.append(len(argument))
                numbers.extend(argument)
            else:
                numbers.append(argument)
    return numbers


def split(numbers):
    """The answers of the calls, one list each."""
    results = []
    start = 0
    while start < len(numbers):
        end = start + 1 + numbers[start]
        assert end <= len(numbers), "the last answer is cut off"
        results.append(numbers[start + 1:end])
        start = end
    return results


def run(session):
    """The answers to a session; there is one for each call."""
    results = split(answers(encoded(session)))
    assert len(results) == len(session), (len(results), len(session))
    return results


def after_create(*session):
    """The answers to the calls behind create."""
    return run([CREATE, *session])[1:]


def last(*session):
    """The answer to the last of the calls behind create."""
    return after_create(*session)[-1]


def listed(polynomial):
    """The answer that stands for a list of coefficients without zeros at its end."""
    numbers = [len(polynomial)]
    for coefficient in polynomial:
        numbers += [Fraction(coefficient).numerator, Fraction(coefficient).denominator]
    return numbers


def trimmed(polynomial):
    kept = [Fraction(coefficient) for coefficient in polynomial]
    while kept and kept[-1] == 0:
        kept.pop()
    return kept


def product(*factors):
    """The product of polynomials, multiplied out."""
    result = [Fraction(1)]
    for factor in factors:
        wider = [Fraction(0)] * (len(result) + len(factor) - 1)
        for i, a in enumerate(result):
            for k, b in enumerate(factor):
                wider[i + k] += a * Fraction(b)
        result = wider
    return result


def scaled_up(slot, *factors):
    """Calls of scale_roots in one slot, one for each whole number or fraction."""
    fractions = [Fraction(factor) for factor in factors]
    return [("scale_roots", slot, slot, f.numerator, f.denominator) for f in fractions]
