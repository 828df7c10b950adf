"""Checks of what is handed to a call, and of what a call would store."""

from rootkeepers.refusals import NoSuchSlot, OutOfRange, TooLarge

SLOT_COUNT = 4
LARGEST_PARAMETER = 1000
LAST_SEQUENCE = 5
MOST_BITS = 30


def check_slots(slots):
    """Refuse slots of which one does not exist."""
    for slot in slots:
        if slot < 0 or slot >= SLOT_COUNT:
            raise NoSuchSlot()


def check_fraction(numerator, denominator):
    """Refuse a numerator or a denominator outside its range."""
    if abs(numerator) > LARGEST_PARAMETER:
        raise OutOfRange()
    if denominator < 1 or denominator > LARGEST_PARAMETER:
        raise OutOfRange()


def check_row(numerators, most, denominator):
    """Refuse too many numerators, a common denominator or a numerator outside its range."""
    if len(numerators) > most:
        raise OutOfRange()
    # The denominator of an empty row is checked, too.
    check_fraction(0, denominator)
    for numerator in numerators:
        check_fraction(numerator, denominator)


def check_sequence(sequence):
    """Refuse a multiplier sequence that does not exist."""
    if sequence < 0 or sequence > LAST_SEQUENCE:
        raise OutOfRange()


def check_bits(bits):
    """Refuse a number of bits outside its range."""
    if bits < 0 or bits > MOST_BITS:
        raise OutOfRange()


def check_size(polynomial):
    """Refuse a polynomial with a number that is too large to be stored."""
    largest = 10 ** 30
    for coefficient in polynomial:
        if abs(coefficient[0]) > largest or coefficient[1] > largest:
            raise TooLarge()
