"""The form of a flat program, and what is asked of the whole of it."""

from escheat.kind_forms import kind_parts
from escheat.limits import MAX_CONSTRUCTORS, MAX_DEPTH, MAX_KIND, MAX_PARTS, MAX_STEPS
from escheat.names import FIRST_EXCEPTIONS, is_integer, is_natural
from escheat.shapes import is_tree, is_tuple_of


def is_flat_form(value):
    """Tell whether a value has the form of a flat program."""
    if not is_tree(value):
        return False
    datas, exceptions, functions = value
    if not all([_is_data(data) for data in datas]) or not all([isinstance(name, str) for name in exceptions]):
        return False
    return all([_is_function(function) for function in functions])


def whole_holds(program):
    """Tell whether a value with the form of a flat program satisfies what is asked of the whole of it."""
    datas, exceptions, functions = program
    if not functions or not _sizes_hold(functions):
        return False
    if exceptions[:len(FIRST_EXCEPTIONS)] != FIRST_EXCEPTIONS or len(set(exceptions)) != len(exceptions):
        return False
    return all([_data_holds(data, number) for number, data in enumerate(datas)])


def kind_fits(kind, count):
    """Tell whether the sizes of a kind are right and all of its data numbers are below count."""
    pending = [kind]
    nodes = 0
    while pending:
        head, what, _ = pending.pop()
        nodes += 1
        if nodes > MAX_KIND:
            return False
        if head == "data":
            if what >= count:
                return False
        elif len(what) > MAX_PARTS:
            return False
        else:
            pending.extend(what)
    return True


def _is_pair(value):
    """Tell whether a value is a pair of a name and a tuple."""
    return is_tuple_of(value, 2) and isinstance(value[0], str) and isinstance(value[1], tuple)


def _is_data(value):
    if not _is_pair(value) or not all([_is_pair(constructor) for constructor in value[1]]):
        return False
    return all([_is_kind(field) for _, fields in value[1] for field in fields])


def _is_kind(value):
    pending = [value]
    while pending:
        kind = pending.pop()
        parts = kind_parts(kind)
        if parts is None or kind[0] == "data" and not is_natural(kind[1]):
            return False
        pending.extend(parts)
    return True


def _is_zero(value):
    return is_integer(value) and value == 0


def _are_naturals(value):
    return isinstance(value, tuple) and all([is_natural(part) for part in value])


def _is_function(value):
    if not is_tuple_of(value, 6):
        return False
    name, regions, touch, kinds, result, body = value
    if not isinstance(name, str) or not _is_zero(regions) or touch != () or not isinstance(kinds, tuple):
        return False
    return all([_is_kind(kind) for kind in [*kinds, result]]) and _is_body(body)


def _is_body(value):
    # A list of blocks in the place of calls: a value that is no program may be deep.
    pending = [value]
    while pending:
        block = pending.pop()
        if not is_tuple_of(block, 3):
            return False
        bind, steps, variable = block
        if not _are_naturals(bind) or not isinstance(steps, tuple) or not is_natural(variable):
            return False
        if not all([_is_step(step) for step in steps]):
            return False
        pending.extend([inner for step in steps for inner in step[7]])
    return True


def _is_step(value):
    """Tell whether a value has the form of a step, whatever its info and its blocks are."""
    if not is_tuple_of(value, 8):
        return False
    op, out, kind, ins, _, region, use, blocks = value
    if not isinstance(op, str) or not is_natural(out) or not _is_kind(kind) or not _are_naturals(ins):
        return False
    return _is_zero(region) and use == () and isinstance(blocks, tuple)


def _sizes_hold(functions):
    """Tell whether the number of the steps and the depth of the blocks are right."""
    pending = [(function[5], 1) for function in functions]
    many = 0
    while pending:
        (_, steps, _), depth = pending.pop()
        many += len(steps)
        if many > MAX_STEPS or depth > MAX_DEPTH:
            return False
        pending.extend([(inner, depth + 1) for step in steps for inner in step[7]])
    return True


def _data_holds(data, number):
    _, constructors = data
    if not 1 <= len(constructors) <= MAX_CONSTRUCTORS:
        return False
    for _, fields in constructors:
        if len(fields) > MAX_PARTS or not all([kind_fits(field, number + 1) for field in fields]):
            return False
    return True
