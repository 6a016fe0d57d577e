"""The form of code: which values are well-formed code for the machine.

Code is a tuple (exceptions, bodies, main), and a body a tuple (inputs, captured, region, registers, instructions).
"""

from escheat.limits import FIRST_ADDRESS
from escheat.names import FIRST_EXCEPTIONS, is_integer, is_natural
from escheat.shapes import is_tuple_of

# What the operands of each instruction are, in order.
OPERANDS = {
    "set": ("reg", "integer"), "copy": ("reg", "reg"), "cell": ("reg", "name", "head", "regs"),
    "closure": ("reg", "name", "body", "regs"), "array": ("reg", "name", "reg", "reg"),
    "load": ("reg", "reg", "word"), "store": ("reg", "word", "reg"), "item": ("reg", "reg", "reg"),
    "put": ("reg", "reg", "reg"), "switch": ("reg", "branches"), "branch": ("reg", "place"), "jump": ("place",),
    "call": ("reg", "body", "regs", "handles"), "apply": ("reg", "reg", "reg"), "return": ("reg",),
    "begin": ("name",), "end": ("name",), "try": ("kept", "arms"), "untry": (), "raise": ("exception", "reg"),
    "print": ("reg",), "add": ("reg", "reg", "reg"), "sub": ("reg", "reg", "reg"), "mul": ("reg", "reg", "reg"),
    "div": ("reg", "reg", "reg"), "rem": ("reg", "reg", "reg"), "equal": ("reg", "reg", "reg"),
    "less": ("reg", "reg", "reg"),
}

# The instructions that can be the last ones of a body.
LAST = ("return", "raise")

# The region of the body of a function, which is no closure.
NO_REGION = -1


def is_code(value):
    """Tell whether a value is well-formed code."""
    if not is_tuple_of(value, 3):
        return False
    exceptions, bodies, main = value
    if not _are_exceptions(exceptions) or not isinstance(bodies, tuple) or not all([_is_body(body) for body in bodies]):
        return False
    if not _is_below(main, len(bodies)) or bodies[main][1] != ():
        return False
    return all([_are_instructions(InBody(len(exceptions), bodies, body)) for body in bodies])


def _are_exceptions(value):
    if not isinstance(value, tuple) or value[:len(FIRST_EXCEPTIONS)] != FIRST_EXCEPTIONS:
        return False
    return all([isinstance(name, str) for name in value])


def _is_body(value):
    """Tell whether a value has the form of a body, whatever its instructions are."""
    if not is_tuple_of(value, 5):
        return False
    inputs, captured, region, registers, instructions = value
    if not is_integer(region) or region < NO_REGION or not is_integer(registers):
        return False
    for regs in (inputs, captured):
        if not isinstance(regs, tuple) or not all([_is_below(reg, registers) for reg in regs]):
            return False
    return isinstance(instructions, tuple)


def _is_below(value, bound):
    return is_natural(value) and value < bound


def _are_instructions(within):
    """Tell whether the instructions of a body are right."""
    instructions = within.instructions
    for index, instruction in enumerate(instructions):
        within.index = index
        if not _is_instruction(instruction, within):
            return False
    return instructions != () and instructions[-1][0] in LAST


def _is_instruction(value, within):
    if not isinstance(value, tuple) or not value or not isinstance(value[0], str):
        return False
    op, *operands = value
    forms = OPERANDS.get(op)
    if forms is None or len(forms) != len(operands):
        return False
    for form, operand in zip(forms, operands):
        holds = CHECKS[form]
        if not holds(operand, within):
            return False
    fits = AGREEMENTS.get(op)
    return fits is None or fits(operands, within)


class InBody:
    """What an instruction of a body may refer to, and its index."""

    def __init__(self, exceptions, bodies, body):
        self.exceptions = exceptions
        self.bodies = bodies
        self.registers = body[3]
        self.instructions = body[4]
        self.index = 0


def _is_reg(value, within):
    return _is_below(value, within.registers)


def _are_regs(value, within):
    return isinstance(value, tuple) and all([_is_reg(reg, within) for reg in value])


def _is_number(value, within):
    return is_integer(value)


def _is_name(value, within):
    return is_natural(value)


def _are_names(value, within):
    return isinstance(value, tuple) and all([is_natural(name) for name in value])


def _is_word(value, within):
    return _is_below(value, FIRST_ADDRESS)


def _is_head(value, within):
    return isinstance(value, tuple) and len(value) <= 1 and all([_is_word(word, within) for word in value])


def _is_body_index(value, within):
    return _is_below(value, len(within.bodies))


def _is_place(value, within):
    return _is_below(value, len(within.instructions)) and value > within.index


def _is_exception(value, within):
    return _is_below(value, within.exceptions)


def _are_branches(value, within):
    return isinstance(value, tuple) and all([_is_branch(branch, within) for branch in value])


def _is_branch(value, within):
    return is_tuple_of(value, 2) and _is_place(value[0], within) and _are_regs(value[1], within)


def _are_handles(value, within):
    return isinstance(value, tuple) and all([_is_handle(handle) for handle in value])


def _is_handle(value):
    if not is_tuple_of(value, 3):
        return False
    name, passed, mode = value
    return is_natural(name) and is_natural(passed) and mode in ("keep", "last")


def _are_arms(value, within):
    if not isinstance(value, tuple) or not all([_is_arm(arm, within) for arm in value]):
        return False
    return len(set([arm[0] for arm in value])) == len(value)


def _is_arm(value, within):
    if not is_tuple_of(value, 3):
        return False
    exception, reg, place = value
    return _is_exception(exception, within) and _is_reg(reg, within) and _is_place(place, within)


CHECKS = {
    "reg": _is_reg, "regs": _are_regs, "integer": _is_number, "name": _is_name, "word": _is_word, "head": _is_head,
    "body": _is_body_index, "place": _is_place, "exception": _is_exception, "branches": _are_branches,
    "handles": _are_handles, "kept": _are_names, "arms": _are_arms,
}


def _cell_has_words(operands, within):
    return operands[2] != () or operands[3] != ()


def _closure_fits(operands, within):
    inputs, captured, region, _, _ = within.bodies[operands[2]]
    return region != NO_REGION and len(inputs) == 1 and len(captured) == len(operands[3])


def _call_fits(operands, within):
    inputs, captured, region, _, _ = within.bodies[operands[1]]
    return region == NO_REGION and captured == () and len(inputs) == len(operands[2])


# What else holds for the operands of an instruction together.
AGREEMENTS = {"cell": _cell_has_words, "closure": _closure_fits, "call": _call_fits}
