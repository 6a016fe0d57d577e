"""Arithmetic of the integers of the language, and the exceptions that every program has."""

# The numbers of the exceptions of every program.
DIV = 0
INDEX = 1
SIZE = 2

HALF = 2147483648


def wrap(number):
    """Return the integer of the language that differs from a number by a multiple of 4294967296."""
    return (number + HALF) % (2 * HALF) - HALF


def divides_by_zero(op, second):
    """Tell whether an operation raises Div because of its second operand."""
    return op in ("div", "rem") and second == 0


def compute(op, first, second):
    """Return the value of an operation on two integers that does not divide by zero."""
    action = OPERATIONS[op]
    return action(first, second)


def _add(first, second):
    return wrap(first + second)


def _sub(first, second):
    return wrap(first - second)


def _mul(first, second):
    return wrap(first * second)


def _quotient(first, second):
    # Python rounds down, the language toward zero.
    quotient = abs(first) // abs(second)
    return quotient if (first < 0) == (second < 0) else -quotient


def _div(first, second):
    return wrap(_quotient(first, second))


def _rem(first, second):
    return first - second * _quotient(first, second)


def _equal(first, second):
    return first == second


def _less(first, second):
    return first < second


OPERATIONS = {
    "add": _add, "sub": _sub, "mul": _mul, "div": _div, "rem": _rem, "equal": _equal, "less": _less,
}
