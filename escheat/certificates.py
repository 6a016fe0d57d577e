"""The form of certificates, tuples (function, mine, peak, growth, size)."""

from escheat.limits import MAX_COEFFICIENT
from escheat.names import is_natural
from escheat.shapes import is_tuple_of


def is_certificate(value, program):
    """Tell whether a value has the form of a certificate for a region program."""
    if not is_tuple_of(value, 5):
        return False
    number, mine, peak, growth, size = value
    if not is_natural(number) or number >= len(program[2]):
        return False
    _, _, touch, kinds, _, _ = program[2][number]
    if not _are_among(mine, touch):
        return False
    count = len(kinds) + len(mine)
    if not is_tuple_of(growth, len(touch) - len(mine)) or not all([_is_linear(part, count) for part in growth]):
        return False
    return _is_linear(peak, count) and (size is None or _is_linear(size, count))


def _are_among(value, touch):
    """Tell whether a value is an ascending tuple of numbers that are in the ascending tuple touch."""
    if not isinstance(value, tuple) or not all([is_natural(region) for region in value]):
        return False
    return value == tuple([region for region in touch if region in value])


def _is_linear(value, count):
    """Tell whether a value is a linear expression in so many variables."""
    if not is_tuple_of(value, 1 + count):
        return False
    return all([is_natural(number) and number <= MAX_COEFFICIENT for number in value])
