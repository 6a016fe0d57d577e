"""The steps of flat programs and of region programs.

A step is a tuple (op, out, kind, ins, info, region, use, blocks), and a block a tuple (bind, steps, value).
"""

from escheat.limits import MAX_PARTS

# The number of the ins of each op of a flat program. The ops of SEVERAL_INS are missing: it differs.
INS = {
    "int": 0, "bool": 0, "unit": 0, "fn": 0, "handle": 0,
    "get": 1, "ref": 1, "deref": 1, "len": 1, "raise": 1, "print": 1, "if": 1, "case": 1,
    "apply": 2, "set": 2, "array": 2, "at": 2, "add": 2, "sub": 2, "mul": 2, "div": 2, "rem": 2,
    "equal": 2, "less": 2, "put": 3,
}
SEVERAL_INS = ("make", "tuple", "call")

# The ops that make a cell, whatever their ins are; make does so if it has some.
CELL_OPS = ("tuple", "fn", "ref", "array")

# The ops behind whose blocks the function goes on; the block of an fn is done by itself.
JOINING_OPS = ("if", "case", "handle")

# The ops that read or write the cell of their first in, whatever its kind is; case does so if it has fields.
READING_OPS = ("get", "deref", "set", "at", "put", "len", "apply")


def is_flat_op(op):
    """Tell whether a string is an op of a flat program."""
    return op in INS or op in SEVERAL_INS


def allows_ins(op, many):
    """Tell whether a step of a flat program with this op can have so many ins."""
    if op in INS:
        return INS[op] == many
    return many >= 2 if op == "tuple" else many <= MAX_PARTS


def is_boundary(step):
    """Tell whether a step begins a region or gives one back."""
    return step[0] in ("new", "end")


def makes_cell(step):
    """Tell whether a step makes a cell in its region."""
    return step[0] in CELL_OPS or step[0] == "make" and step[3] != ()


def free_variables(block):
    """Return the ascending tuple of the variables that a block uses and does not bind."""
    used = {}
    bound = {}
    pending = [block]
    while pending:
        bind, steps, value = pending.pop()
        used[value] = True
        for variable in bind:
            bound[variable] = True
        for _, out, _, ins, _, _, _, blocks in steps:
            bound[out] = True
            for variable in ins:
                used[variable] = True
            pending.extend(blocks)
    return tuple(sorted([variable for variable in used if variable not in bound]))
