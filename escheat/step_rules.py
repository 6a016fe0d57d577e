"""What each op asks of a step: its info, its kind and the kinds of its ins.

The rules hold in flat programs and, with the regions of the kinds, in region programs. A rule takes a step, the
list of the kinds of its ins, as many as the op asks for, and what is known of the program. It returns a list of
pairs of kinds: the step is right if the kinds of each pair are equal. If it is wrong anyway, it returns None.
"""

from escheat.kind_forms import BOOL, INT, UNIT
from escheat.kind_regions import kind_at_call, kind_in
from escheat.limits import MAX_PARTS
from escheat.names import is_language_integer, is_natural

# The ops whose rule looks at the info; for the others it is None.
WITH_INFO = ("int", "bool", "make", "get", "call", "raise", "handle")


class Known:
    """What the steps of a function may refer to."""

    def __init__(self, program, number):
        datas, exceptions, functions = program
        self.datas = datas
        self.exceptions = len(exceptions)
        self.functions = functions
        self.number = number


def equal_kinds(step, kinds, known):
    """Return the pairs of kinds that must be equal for a step, or None if it is wrong whatever they are."""
    op, info = step[0], step[4]
    if info is not None and op not in WITH_INFO:
        return None
    rule = RULES[op]
    return rule(step, kinds, known)


def step_holds(step, kinds, known):
    """Tell whether a step satisfies what its op asks of its info and of the kinds."""
    pairs = equal_kinds(step, kinds, known)
    return pairs is not None and all([one == other for one, other in pairs])


def field_kinds_at(kind, datas):
    """Return the list of the tuples of field kinds of each constructor of a data kind, in its region."""
    _, number, region = kind
    constructors = datas[number][1]
    return [tuple([kind_in(field, region) for field in fields]) for _, fields in constructors]


def bound_kinds(step, kinds, datas):
    """Return the list of the tuples of the kinds of the variables that the blocks of a right step bind.

    The normal arm of a handle binds what its body gives; unit stands in its place.
    """
    op, _, kind, _, info, _, _, _ = step
    if op == "fn":
        return [kind[1][:1]]
    if op == "if":
        return [(), ()]
    if op == "case":
        return field_kinds_at(kinds[0], datas)
    if op == "handle":
        return [(), (UNIT,)] + [(INT,)] * len(info)
    return []


def value_kind(step, index):
    """Return the kind that the value of a block of a right step must have, or None if any kind is right."""
    op, kind = step[0], step[2]
    if op == "fn":
        return kind[1][1]
    return None if op == "handle" and index == 0 else kind


def _is_below(value, bound):
    return is_natural(value) and value < bound


def _int(step, kinds, known):
    return [(step[2], INT)] if is_language_integer(step[4]) else None


def _bool(step, kinds, known):
    return [(step[2], BOOL)] if isinstance(step[4], bool) else None


def _unit(step, kinds, known):
    return [(step[2], UNIT)]


def _make(step, kinds, known):
    _, _, kind, _, number, region, _, _ = step
    if kind[0] != "data" or kinds and kind[2] != region:
        return None
    fields = field_kinds_at(kind, known.datas)
    if not _is_below(number, len(fields)) or len(fields[number]) != len(kinds):
        return None
    return list(zip(kinds, fields[number]))


def _tuple(step, kinds, known):
    return [(step[2], ("tuple", tuple(kinds), step[5]))]


def _get(step, kinds, known):
    head, parts, _ = kinds[0]
    if head != "tuple" or not _is_below(step[4], len(parts)):
        return None
    return [(step[2], parts[step[4]])]


def _call(step, kinds, known):
    _, _, kind, _, number, _, use, _ = step
    if not _is_below(number, known.number + 1):
        return None
    _, _, _, wanted, result, _ = known.functions[number]
    if len(wanted) != len(kinds):
        return None
    wanted = [kind_at_call(each, use) for each in wanted]
    return [(kind, kind_at_call(result, use))] + list(zip(kinds, wanted))


def _fn(step, kinds, known):
    return [] if step[2][0] == "fn" and step[2][2] == step[5] else None


def _apply(step, kinds, known):
    closure, argument = kinds
    return [(closure, ("fn", (argument, step[2]), closure[2]))]


def _ref(step, kinds, known):
    return [(step[2], ("ref", (kinds[0],), step[5]))]


def _is_holder(head, kind, part):
    """Return the pair that says that a kind is a ref or an array of a part."""
    return (kind, (head, (part,), kind[2]))


def _deref(step, kinds, known):
    return [_is_holder("ref", kinds[0], step[2])]


def _set(step, kinds, known):
    return [_is_holder("ref", kinds[0], kinds[1]), (step[2], UNIT)]


def _array(step, kinds, known):
    return [(kinds[0], INT), (step[2], ("array", (kinds[1],), step[5]))]


def _at(step, kinds, known):
    return [_is_holder("array", kinds[0], step[2]), (kinds[1], INT)]


def _put(step, kinds, known):
    return [_is_holder("array", kinds[0], kinds[2]), (kinds[1], INT), (step[2], UNIT)]


def _len(step, kinds, known):
    return [(step[2], INT)] if kinds[0][0] == "array" else None


def _raise(step, kinds, known):
    return [(kinds[0], INT)] if _is_below(step[4], known.exceptions) else None


def _handle(step, kinds, known):
    numbers = step[4]
    if not isinstance(numbers, tuple) or len(numbers) > MAX_PARTS:
        return None
    if not all([_is_below(number, known.exceptions) for number in numbers]):
        return None
    return [] if len(set(numbers)) == len(numbers) else None


def _print(step, kinds, known):
    return [(kinds[0], INT), (step[2], UNIT)]


def _arithmetic(step, kinds, known):
    return [(kinds[0], INT), (kinds[1], INT), (step[2], INT)]


def _comparison(step, kinds, known):
    return [(kinds[0], INT), (kinds[1], INT), (step[2], BOOL)]


def _if(step, kinds, known):
    return [(kinds[0], BOOL)]


def _case(step, kinds, known):
    return [] if kinds[0][0] == "data" else None


RULES = {
    "int": _int, "bool": _bool, "unit": _unit, "make": _make, "tuple": _tuple, "get": _get, "call": _call,
    "fn": _fn, "apply": _apply, "ref": _ref, "deref": _deref, "set": _set, "array": _array, "at": _at, "put": _put,
    "len": _len, "raise": _raise, "handle": _handle, "print": _print, "if": _if, "case": _case,
    "add": _arithmetic, "sub": _arithmetic, "mul": _arithmetic, "div": _arithmetic, "rem": _arithmetic,
    "equal": _comparison, "less": _comparison,
}
