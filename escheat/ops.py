"""The ops of the expressions of a tree: how many kids and arms they have, and which have an info."""

from escheat.limits import MAX_CONSTRUCTORS, MAX_PARTS

# The kids of each op. Calls, constructors and tuples are missing: they have several numbers.
KIDS = {
    "int": 0, "bool": 0, "unit": 0, "name": 0,
    "get": 1, "case": 1, "fn": 1, "ref": 1, "deref": 1, "len": 1, "raise": 1, "handle": 1, "print": 1,
    "let": 2, "apply": 2, "set": 2, "array": 2, "at": 2, "seq": 2,
    "add": 2, "sub": 2, "mul": 2, "div": 2, "rem": 2, "equal": 2, "less": 2,
    "if": 3, "put": 3,
}

WITH_INFO = ("int", "bool", "name", "call", "make", "get", "let", "fn", "raise")

# The ops whose written form does not begin with their name.
WITHOUT_WORD = ("int", "bool", "unit", "name", "call", "make")


def is_op(word):
    """Tell whether a string is an op."""
    return word in KIDS or word in ("call", "make", "tuple")


def is_op_word(word):
    """Tell whether a word begins the written form of its own op."""
    return is_op(word) and word not in WITHOUT_WORD


def allows_kids(op, many):
    """Tell whether an expression with this op can have so many kids."""
    if op in KIDS:
        return KIDS[op] == many
    least = 2 if op == "tuple" else 0
    return least <= many <= MAX_PARTS


def allows_arms(op, many):
    """Tell whether an expression with this op can have so many arms."""
    if op == "case":
        return 1 <= many <= MAX_CONSTRUCTORS
    if op == "handle":
        return many <= MAX_PARTS
    return many == 0
