"""The texts of the declarations, kinds and expressions of a tree."""


def _form(parts):
    return "(" + " ".join(parts) + ")"


def data_text(data):
    """Return the text of a data declaration."""
    name, constructors = data
    return _form(["data", name] + [_constructor_text(constructor) for constructor in constructors])


def exception_text(name):
    """Return the text of the declaration of an exception."""
    return _form(["exception", name])


def _constructor_text(constructor):
    name, fields = constructor
    return _form([name] + [_kind_text(field) for field in fields])


def function_text(function):
    """Return the text of a function."""
    name, _, parameters, result, body = function
    pairs = [_parameter_text(parameter) for parameter in parameters]
    return _form(["fun", name, _form(pairs), _kind_text(result), _expression_text(body)])


def _parameter_text(parameter):
    name, kind = parameter
    return _form([name, _kind_text(kind)])


def _kind_text(kind):
    head, what, _ = kind
    if head == "data":
        return what
    if not what:
        return head
    return _form([head] + [_kind_text(part) for part in what])


def _expression_text(expression):
    op, _, info, kids, arms = expression
    if op in ("int", "bool", "unit", "name"):
        return _word_text(op, info)
    parts = _first_parts(op, info)
    parts.extend([_expression_text(kid) for kid in kids])
    parts.extend([_arm_text(op, arm) for arm in arms])
    return _form(parts)


def _word_text(op, info):
    if op == "unit":
        return "unit"
    if op == "bool":
        return "true" if info else "false"
    return str(info)


def _first_parts(op, info):
    """Return the texts of what stands before the kids in an expression's form."""
    if op in ("call", "make"):
        return [info]
    if op in ("get", "let"):
        return [op, str(info)]
    if op == "fn":
        return [op, _parameter_text(info)]
    if op == "raise":
        return [op, info[0], _kind_text(info[1])]
    return [op]


def _arm_text(op, arm):
    name, variables, body = arm
    if op == "case":
        return _form([_form([name, *variables]), _expression_text(body)])
    return _form([name, *variables, _expression_text(body)])
