"""Kinds, expressions and declarations, read from the forms of a text."""

from escheat.errors import TextError
from escheat.forms import (
    counted_parts, exception_name, first_word, form_parts, great_name, is_word, numeral_below, require,
    small_name, small_names,
)
from escheat.limits import MAX_CONSTRUCTORS, MAX_PARTS
from escheat.names import FIRST_EXCEPTIONS, is_great_name, is_numeral, is_small_name
from escheat.ops import allows_arms, allows_kids, is_op_word

# Kinds and expressions of one word.
KIND_WORDS = {"int": ("int", (), 0), "bool": ("bool", (), 0), "unit": ("unit", (), 0)}
LITERALS = {"true": ("bool", True), "false": ("bool", False), "unit": ("unit", None)}

# The parts of a form between its first part and its kids; other ops have none.
INFO_PARTS = {"get": 1, "let": 1, "fn": 1, "raise": 2}


def read_kind(part):
    """Return the kind that a part must be."""
    if is_word(part):
        return _word_kind(part)
    head = first_word(part)
    least, most = _kind_parts(head, part)
    parts = counted_parts(part, 1 + least, 1 + most)
    return (head, tuple([read_kind(inner) for inner in parts[1:]]), 0)


def _word_kind(part):
    if part[0] in KIND_WORDS:
        return KIND_WORDS[part[0]]
    return ("data", small_name(part), 0)


def _kind_parts(head, part):
    """Return the least and the greatest number of kinds behind the first part of a kind's form."""
    if head == "tuple":
        return 2, MAX_PARTS
    require(part[2][0], head in ("fn", "ref", "array"))
    return (2, 2) if head == "fn" else (1, 1)


def read_expression(part):
    """Return the expression that a part must be."""
    if is_word(part):
        return _word_expression(part)
    op = _form_op(first_word(part), part)
    info, kids, arms = _split_form(op, part)
    if not allows_kids(op, len(kids)) or not allows_arms(op, len(arms)):
        raise TextError(part[1])
    return (
        op,
        part[1],
        _read_info(op, part[2][0], info),
        tuple([read_expression(kid) for kid in kids]),
        tuple([_read_arm(op, arm) for arm in arms]),
    )


def _word_expression(part):
    word, at, _ = part
    if is_numeral(word):
        return ("int", at, int(word), (), ())
    if word in LITERALS:
        op, info = LITERALS[word]
        return (op, at, info, (), ())
    return ("name", at, small_name(part), (), ())


def _form_op(word, part):
    """Return the op of an expression's form with this first part."""
    if is_op_word(word):
        return word
    if is_great_name(word):
        return "make"
    require(part[2][0], is_small_name(word))
    return "call"


def _split_form(op, part):
    """Return the parts of an expression's form that are its info, its kids and its arms."""
    parts = part[2]
    start = 1 + INFO_PARTS.get(op, 0)
    end = start + 1 if op in ("case", "handle") else len(parts)
    return parts[1:start], parts[start:end], parts[end:]


def _read_info(op, head, parts):
    """Return the info of an expression, of which the parts and the first part of its form tell."""
    if op in ("call", "make"):
        return head[0]
    if op == "get":
        return numeral_below(parts[0], MAX_PARTS)
    if op == "let":
        return small_name(parts[0])
    if op == "fn":
        return _read_parameter(parts[0], ())
    if op == "raise":
        return (exception_name(parts[0]), read_kind(parts[1]))
    return None


def _read_parameter(part, taken):
    name, kind = counted_parts(part, 2, 2)
    return (small_name(name, taken), read_kind(kind))


def _read_arm(op, part):
    if op == "handle":
        name, variable, body = counted_parts(part, 3, 3)
        return (exception_name(name), (small_name(variable),), read_expression(body))
    pattern, body = counted_parts(part, 2, 2)
    name, variables = _read_pattern(pattern)
    return (name, variables, read_expression(body))


def _read_pattern(part):
    parts = form_parts(part)
    if not parts:
        raise TextError(part[1])
    return great_name(parts[0]), small_names(parts[1:])


def read_declarations(forms):
    """Return the lists of the data declarations, the exceptions and the functions of a text's forms."""
    datas = []
    exceptions = list(FIRST_EXCEPTIONS)
    functions = []
    for form in forms:
        word = first_word(form)
        if word == "data":
            datas.append(_read_data(form, datas))
        elif word == "exception":
            parts = counted_parts(form, 2, 2)
            exceptions.append(small_name(parts[1], exceptions))
        else:
            require(form[2][0], word == "fun")
            functions.append(_read_function(form, functions))
    return datas, exceptions, functions


def _read_data(form, datas):
    parts = counted_parts(form, 3, 2 + MAX_CONSTRUCTORS)
    name = small_name(parts[1], [data[0] for data in datas])
    taken = [constructor[0] for data in datas for constructor in data[1]]
    constructors = []
    for part in parts[2:]:
        constructor = _read_constructor(part, taken)
        taken.append(constructor[0])
        constructors.append(constructor)
    return (name, tuple(constructors))


def _read_constructor(part, taken):
    parts = counted_parts(part, 1, 1 + MAX_PARTS)
    return (great_name(parts[0], taken), tuple([read_kind(field) for field in parts[1:]]))


def _read_function(form, functions):
    _, name, parameters, result, body = counted_parts(form, 5, 5)
    return (
        small_name(name, [function[0] for function in functions]),
        name[1],
        _read_parameters(parameters),
        read_kind(result),
        read_expression(body),
    )


def _read_parameters(part):
    parameters = []
    for inner in counted_parts(part, 0, MAX_PARTS):
        parameters.append(_read_parameter(inner, [parameter[0] for parameter in parameters]))
    return tuple(parameters)
