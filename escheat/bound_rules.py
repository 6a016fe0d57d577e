"""What is known of the size of the value of a step, and the words of the cell that it makes.

A rule takes the place behind the step, the step and the kinds of the variables, and returns the bound, or None if it
is unknown. The least values and the constants it notes by itself.
"""

from escheat.limits import MAX_ARRAY
from escheat.steps import free_variables, makes_cell

# The heads of the kinds whose sizes are counted in what contains their values.
NESTED = ("tuple", "data")

# The heads of the other kinds whose values have a size.
UNSIZED = ("int", "array")


def words_of_cell(place, step):
    """Return the expression of the words of the cell that a step makes, or None if it makes none."""
    op, _, _, ins, _, _, _, blocks = step
    if not makes_cell(step):
        return None
    if op == "array":
        many = place.constants.get(ins[0], 0)
        return _bound_or_most(place, ins[0]).shifted(1) if 0 <= many <= MAX_ARRAY else None
    if op == "fn":
        return place.zero.shifted(2 + len(free_variables(blocks[0])))
    return place.zero.shifted(len(ins) + (1 if op == "make" else 0))


def learn_value(place, step, kinds):
    """Note what is known of the variable that a step defines."""
    rule = RULES.get(step[0])
    place.learn_bound(step[1], place.zero if rule is None else rule(place, step, kinds))


def _bound_or_most(place, variable):
    """Return the bound of a number of elements; it is never unknown, because there are MAX_ARRAY at most."""
    bound = place.bounds[variable]
    return place.zero.shifted(MAX_ARRAY) if bound is None else bound


def _is_natural(place, variable):
    """Tell whether a variable is known not to be negative."""
    return place.least.get(variable, -1) >= 0


def _int(place, step, kinds):
    place.constants[step[1]] = step[4]
    place.least[step[1]] = step[4]
    return place.zero.shifted(max(step[4], 0))


def _add(place, step, kinds):
    first, second = step[3]
    one, other = place.bounds[first], place.bounds[second]
    if not _is_natural(place, first) or not _is_natural(place, second) or one is None or other is None:
        return None
    return one + other


def _sub(place, step, kinds):
    first, second = step[3]
    constant = place.constants.get(second, -1)
    if constant < 0 or not _is_natural(place, first):
        return None
    place.least[step[1]] = place.least[first] - constant
    bound = place.bounds[first]
    return None if bound is None else bound.shifted(-constant)


def _mul(place, step, kinds):
    for one, other in (step[3], list(reversed(step[3]))):
        constant = place.constants.get(one, -1)
        bound = place.bounds[other]
        if constant >= 0 and _is_natural(place, other) and bound is not None:
            return bound.times(constant)
    return None


def _unknown(place, step, kinds):
    return None


def _len(place, step, kinds):
    place.least[step[1]] = 0
    return _bound_or_most(place, step[3][0])


def _array(place, step, kinds):
    count = step[3][0]
    if words_of_cell(place, step) is None:
        return place.zero
    return _bound_or_most(place, count)


def _cell(place, step, kinds):
    total = place.zero
    if step[3]:
        total = words_of_cell(place, step)
    for variable in step[3]:
        if kinds[variable][0] in NESTED:
            bound = place.bounds[variable]
            if bound is None:
                return None
            total = total + bound
    return total


def _get(place, step, kinds):
    head = step[2][0]
    if head in NESTED:
        return place.bounds[step[3][0]]
    return None if head in UNSIZED else place.zero


def _content(place, step, kinds):
    return None if step[2][0] in NESTED + UNSIZED else place.zero


def _raise(place, step, kinds):
    if step[2][0] == "int":
        place.least[step[1]] = 0
    return place.zero


# The ops of which nothing is told are missing: the bound of their values is 0.
RULES = {
    "int": _int, "add": _add, "sub": _sub, "mul": _mul, "div": _unknown, "rem": _unknown, "len": _len,
    "array": _array, "make": _cell, "tuple": _cell, "get": _get, "deref": _content, "at": _content, "raise": _raise,
}
