"""The reasons for which a call is refused, each an error of its own."""


class NotCreated(Exception):
    """A call other than create came before create."""


class NoSuchSlot(Exception):
    """A slot does not exist."""


class OutOfRange(Exception):
    """A parameter is outside its range."""


class ZeroPolynomial(Exception):
    """A polynomial that must not be zero is zero."""


class DifferentDegrees(Exception):
    """Two polynomials that must have the same degree have different ones."""


class NoRoot(Exception):
    """A polynomial that is asked for a root has none."""


class TooLarge(Exception):
    """A result has a number that is too large to be stored."""
