"""The kinds of the expressions whose kids are all checked before anything is asked of their kinds.

Each rule takes the kids and their kinds and returns the kind of the expression.
"""

from escheat.errors import KindError
from escheat.kind_forms import BOOL, INT, UNIT


def expect(holds, expression):
    """Raise KindError with the index of an expression of which something does not hold."""
    if not holds:
        raise KindError(expression[1])


def _content(head, kid, kind):
    """Return what a kid holds that must be a ref or an array."""
    expect(kind[0] == head, kid)
    return kind[1][0]


def _tuple(kids, kinds):
    return ("tuple", tuple(kinds), 0)


def _ref(kids, kinds):
    return ("ref", (kinds[0],), 0)


def _deref(kids, kinds):
    return _content("ref", kids[0], kinds[0])


def _set(kids, kinds):
    part = _content("ref", kids[0], kinds[0])
    expect(kinds[1] == part, kids[1])
    return UNIT


def _array(kids, kinds):
    expect(kinds[0] == INT, kids[0])
    return ("array", (kinds[1],), 0)


def _at(kids, kinds):
    part = _content("array", kids[0], kinds[0])
    expect(kinds[1] == INT, kids[1])
    return part


def _put(kids, kinds):
    part = _content("array", kids[0], kinds[0])
    expect(kinds[1] == INT, kids[1])
    expect(kinds[2] == part, kids[2])
    return UNIT


def _len(kids, kinds):
    _content("array", kids[0], kinds[0])
    return INT


def _print(kids, kinds):
    expect(kinds[0] == INT, kids[0])
    return UNIT


def _seq(kids, kinds):
    return kinds[1]


def _arithmetic(kids, kinds):
    expect(kinds[0] == INT, kids[0])
    expect(kinds[1] == INT, kids[1])
    return INT


def _comparison(kids, kinds):
    _arithmetic(kids, kinds)
    return BOOL


STRAIGHT = {
    "tuple": _tuple, "ref": _ref, "deref": _deref, "set": _set, "array": _array, "at": _at, "put": _put,
    "len": _len, "print": _print, "seq": _seq, "add": _arithmetic, "sub": _arithmetic, "mul": _arithmetic,
    "div": _arithmetic, "rem": _arithmetic, "equal": _comparison, "less": _comparison,
}


def straight_kind(op, kids, kinds):
    """Return the kind of an expression with one of these ops, from its kids and their kinds."""
    rule = STRAIGHT[op]
    return rule(kids, kinds)
