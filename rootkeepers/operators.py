"""Answers to a list of calls on one new instance."""

from rootkeepers.calls import perform
from rootkeepers.keeper import Keeper
from rootkeepers.refusals import (
    DifferentDegrees,
    NoRoot,
    NoSuchSlot,
    NotCreated,
    OutOfRange,
    TooLarge,
    ZeroPolynomial,
)

# For the calls 0 to 21: how many whole numbers each has ahead of its row, without its own number.
PARAMETER_COUNTS = (0, 2, 2, 1, 1, 4, 4, 2, 2, 4, 4, 3, 3, 3, 3, 3, 1, 1, 2, 2, 1, 0)
CALLS_WITH_A_ROW = (1, 2)


def end_of_parameters(calls, start):
    """Give the position behind the parameters of the call that begins at start."""
    return start + 1 + PARAMETER_COUNTS[calls[start]]


def end_of_call(calls, start):
    """Give the position behind the call that begins at start."""
    end = end_of_parameters(calls, start)
    if calls[start] in CALLS_WITH_A_ROW:
        return end + 1 + calls[end]
    return end


def answer(keeper, number, parameters, row):
    """Give the whole numbers that one call answers; a refusal is its error code alone."""
    try:
        return perform(keeper, number, parameters, row)
    except NotCreated:
        return [-11]
    except NoSuchSlot:
        return [-2]
    except OutOfRange:
        return [-22]
    except ZeroPolynomial:
        return [-33]
    except DifferentDegrees:
        return [-34]
    except NoRoot:
        return [-34]
    except TooLarge:
        return [-75]


def answers(calls):
    """Give, for each call, how many whole numbers it answers, then these."""
    keeper = Keeper()
    given_back = []
    start = 0
    while start < len(calls):
        row_start = end_of_parameters(calls, start)
        end = end_of_call(calls, start)
        numbers = answer(keeper, calls[start], calls[start + 1:row_start], calls[row_start + 1:end])
        given_back.append(len(numbers))
        given_back.extend(numbers)
        start = end
    return given_back
