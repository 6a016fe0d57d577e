"""The form of a region program, and the flat program that is left of it without its regions."""

from escheat.kind_forms import UNIT, region_kind_parts
from escheat.kind_regions import kind_in, regions_of
from escheat.limits import MAX_DEPTH, MAX_KIND, MAX_REGIONS
from escheat.names import is_natural
from escheat.shapes import is_tree, is_tuple_of
from escheat.steps import is_boundary, makes_cell

MODES = ("keep", "last", "none")


def has_region_shape(value):
    """Tell whether a value has the form of a region program, whatever is the same in a flat program."""
    if not is_tree(value):
        return False
    datas, _, functions = value
    if not all([_is_data(data) for data in datas]) or not all([_is_function(function) for function in functions]):
        return False
    return not functions or functions[-1][1] == 0


def erase_regions(program):
    """Return the flat program of a value with the form of a region program."""
    datas, exceptions, functions = program
    return (datas, exceptions, tuple([_erase_function(function) for function in functions]))


def _is_data(value):
    if not is_tuple_of(value, 2) or not isinstance(value[1], tuple):
        return False
    return all([_is_constructor(constructor) for constructor in value[1]])


def _is_constructor(value):
    if not is_tuple_of(value, 2) or not isinstance(value[1], tuple):
        return False
    return all([_is_kind(field) and not any(regions_of(field)) for field in value[1]])


def _is_kind(value):
    pending = [value]
    nodes = 0
    while pending:
        nodes += 1
        parts = region_kind_parts(pending.pop())
        if parts is None or nodes > MAX_KIND:
            return False
        pending.extend(parts)
    return True


def _is_function(value):
    if not is_tuple_of(value, 6):
        return False
    _, formals, touch, kinds, result, body = value
    if not is_natural(formals) or not isinstance(kinds, tuple):
        return False
    if not _are_ascending(touch) or not all([formal < formals for formal in touch]):
        return False
    for kind in [*kinds, result]:
        if not _is_kind(kind) or not all([region < formals for region in regions_of(kind)]):
            return False
    return _is_body(body, formals)


def _are_ascending(value):
    """Tell whether a value is an ascending tuple of numbers of regions."""
    if not isinstance(value, tuple) or not all([is_natural(part) for part in value]):
        return False
    return all([one < other for one, other in zip(value, value[1:])])


def _is_body(value, formals):
    """Tell whether a value is a block, and the number of the regions is right with so many formals."""
    pending = [(value, 1)]
    regions = formals
    while pending:
        block, depth = pending.pop()
        if depth > MAX_DEPTH or not is_tuple_of(block, 3):
            return False
        bind, steps, _ = block
        if not isinstance(bind, tuple) or not isinstance(steps, tuple) or not all([_is_step(step) for step in steps]):
            return False
        regions += len([step for step in steps if step[0] == "new"])
        pending.extend([(inner, depth + 1) for step in steps for inner in step[7]])
    return regions <= MAX_REGIONS


def _is_step(value):
    """Tell whether a value has the form of a step, whatever its blocks are."""
    if not is_tuple_of(value, 8):
        return False
    _, out, kind, ins, info, region, use, blocks = value
    if not _is_kind(kind) or not isinstance(ins, tuple) or not is_natural(region) or not isinstance(blocks, tuple):
        return False
    if is_boundary(value):
        return (out, kind, ins, info, use, blocks) == (-1, UNIT, (), None, (), ())
    return _is_use(value[0], use) and (region == 0 or makes_cell(value))


def _is_use(op, value):
    """Tell whether a value has the form of the use of a step with this op."""
    if op == "call":
        return isinstance(value, tuple) and all([_is_pair(pair) for pair in value])
    return _are_ascending(value) if op == "handle" else value == ()


def _is_pair(value):
    return is_tuple_of(value, 2) and is_natural(value[0]) and value[1] in MODES


def _erase_function(function):
    name, _, _, kinds, result, body = function
    kinds = tuple([kind_in(kind, 0) for kind in kinds])
    return (name, 0, (), kinds, kind_in(result, 0), _erase_block(body))


def _erase_block(block):
    bind, steps, value = block
    return (bind, tuple([_erase_step(step) for step in steps if not is_boundary(step)]), value)


def _erase_step(step):
    op, out, kind, ins, info, _, _, blocks = step
    return (op, out, kind_in(kind, 0), ins, info, 0, (), tuple([_erase_block(block) for block in blocks]))
