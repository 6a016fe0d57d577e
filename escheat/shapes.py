"""The form of a tree, of its functions and of its expressions, each by itself."""

from escheat.kind_forms import INT
from escheat.limits import MAX_ARGUMENTS
from escheat.names import is_integer


def is_tuple_of(value, length):
    """Tell whether a value is a tuple with so many parts."""
    return isinstance(value, tuple) and len(value) == length


def is_tree(value):
    """Tell whether a value has the form of a tree, whatever its declarations are."""
    return is_tuple_of(value, 3) and all([isinstance(part, tuple) for part in value])


def is_function(value):
    """Tell whether a value has the form of a function, whatever its kinds and its body are."""
    if not is_tuple_of(value, 5):
        return False
    name, at, parameters, _, _ = value
    if not isinstance(name, str) or not is_integer(at) or not isinstance(parameters, tuple):
        return False
    return all([is_tuple_of(parameter, 2) for parameter in parameters])


def is_expression(value):
    """Tell whether a value has the form of an expression, whatever its kids and the bodies of its arms are."""
    if not is_tuple_of(value, 5):
        return False
    op, at, _, kids, arms = value
    if not isinstance(op, str) or not is_integer(at):
        return False
    if not isinstance(kids, tuple) or not isinstance(arms, tuple):
        return False
    return all([is_tuple_of(arm, 3) for arm in arms])


def inner_expressions(expression):
    """Return the list of the kids of an expression and the bodies of its arms."""
    return list(expression[3]) + [arm[2] for arm in expression[4]]


def count_expressions(functions):
    """Return the number of the expressions of a list or tuple of functions."""
    pending = [function[4] for function in functions]
    count = 0
    while pending:
        expression = pending.pop()
        count += 1
        pending.extend(inner_expressions(expression))
    return count


def ends_in_main(functions):
    """Tell whether there is a last function, and it is a main function."""
    if not functions:
        return False
    name, _, parameters, result, _ = functions[-1]
    kinds = [kind for _, kind in parameters]
    return name == "main" and len(kinds) <= MAX_ARGUMENTS and all([kind == INT for kind in [*kinds, result]])
