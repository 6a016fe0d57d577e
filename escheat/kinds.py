"""Checking the kinds of a tree."""

from escheat.declared import Declared, declarations_hold
from escheat.errors import KindError
from escheat.kind_forms import BOOL, INT, UNIT, kind_parts
from escheat.limits import MAX_KIND
from escheat.names import is_integer, is_language_integer
from escheat.ops import WITH_INFO, allows_arms, allows_kids, is_op
from escheat.scopes import inner_scope
from escheat.straight import expect, straight_kind


def with_kinds(tree):
    """Return a tree with the kinds of its expressions, or raise KindError."""
    if not declarations_hold(tree):
        raise KindError(0)
    declared = Declared(tree)
    functions = [_check_function(function, declared) for function in tree[2]]
    return (declared.datas, tree[1], tuple(functions))


def kind_size(kind):
    """Return the number of nodes of a kind: itself and all its parts, at all depths."""
    pending = [kind]
    nodes = 0
    while pending:
        _, what, _ = pending.pop()
        nodes += 1
        if isinstance(what, tuple):
            pending.extend(what)
    return nodes


def is_kind(kind, count):
    """Tell whether a value has the form of a kind with data kinds below count and no regions but 0."""
    pending = [kind]
    while pending:
        value = pending.pop()
        parts = kind_parts(value)
        if parts is None:
            return False
        if value[0] == "data" and not (is_integer(value[1]) and 0 <= value[1] < count):
            return False
        pending.extend(parts)
    return True


def field_kinds(datas, number):
    """Return the list of the tuples of field kinds of a data declaration's constructors."""
    return [fields for _, fields in datas[number][1]]


def _check_function(function, declared):
    name, _, parameters, result, body = function
    scope = {variable: declared.numbered(kind) for variable, kind in parameters}
    result = declared.numbered(result)
    declared.add_function(name, list(scope.values()), result)
    checked = _check(body, scope, declared)
    expect(checked[1] == result, body)
    return (name, tuple(scope.items()), result, checked)


def _check(expression, scope, declared):
    """Return an expression with its kind; scope has the kinds of the variables."""
    op, _, info, kids, arms = expression
    expect(is_op(op) and allows_kids(op, len(kids)) and allows_arms(op, len(arms)), expression)
    expect(info is None or op in WITH_INFO, expression)
    rule = RULES.get(op, _check_straight)
    checked = rule(expression, scope, declared)
    expect(kind_size(checked[1]) <= MAX_KIND, expression)
    return checked


def _check_straight(expression, scope, declared):
    op, _, _, kids, _ = expression
    checked = tuple([_check(kid, scope, declared) for kid in kids])
    return (op, straight_kind(op, kids, [kid[1] for kid in checked]), None, checked, ())


def _check_int(expression, scope, declared):
    expect(is_language_integer(expression[2]), expression)
    return ("int", INT, expression[2], (), ())


def _check_bool(expression, scope, declared):
    expect(isinstance(expression[2], bool), expression)
    return ("bool", BOOL, expression[2], (), ())


def _check_unit(expression, scope, declared):
    return ("unit", UNIT, None, (), ())


def _check_name(expression, scope, declared):
    name = expression[2]
    expect(isinstance(name, str) and name in scope, expression)
    return ("name", scope[name], name, (), ())


def _check_call(expression, scope, declared):
    name = expression[2]
    expect(isinstance(name, str) and name in declared.functions, expression)
    number, kinds, result = declared.functions[name]
    return ("call", result, number, _check_fitting(expression, kinds, scope, declared), ())


def _check_make(expression, scope, declared):
    name = expression[2]
    expect(isinstance(name, str) and name in declared.constructors, expression)
    number, index, fields = declared.constructors[name]
    return ("make", ("data", number, 0), index, _check_fitting(expression, fields, scope, declared), ())


def _check_fitting(expression, kinds, scope, declared):
    """Return the kids of an expression, which must have these kinds."""
    kids = expression[3]
    expect(len(kids) == len(kinds), expression)
    return tuple([_check_kid(kid, kind, scope, declared) for kid, kind in zip(kids, kinds)])


def _check_kid(kid, kind, scope, declared):
    """Return a kid, which must have this kind."""
    checked = _check(kid, scope, declared)
    expect(checked[1] == kind, kid)
    return checked


def _check_get(expression, scope, declared):
    _, _, index, (kid,), _ = expression
    checked = _check(kid, scope, declared)
    head, parts, _ = checked[1]
    expect(head == "tuple", kid)
    expect(is_integer(index) and 0 <= index < len(parts), expression)
    return ("get", parts[index], index, (checked,), ())


def _check_let(expression, scope, declared):
    _, _, name, (value, body), _ = expression
    value = _check(value, scope, declared)
    body = _check(body, inner_scope(scope, (name,), (value[1],)), declared)
    return ("let", body[1], name, (value, body), ())


def _check_if(expression, scope, declared):
    condition, first, second = expression[3]
    condition = _check_kid(condition, BOOL, scope, declared)
    first = _check(first, scope, declared)
    second = _check_kid(second, first[1], scope, declared)
    return ("if", first[1], None, (condition, first, second), ())


def _check_fn(expression, scope, declared):
    _, _, (name, written), (body,), _ = expression
    expect(declared.is_written_kind(written), expression)
    kind = declared.numbered(written)
    body = _check(body, inner_scope(scope, (name,), (kind,)), declared)
    return ("fn", ("fn", (kind, body[1]), 0), (name, kind), (body,), ())


def _check_apply(expression, scope, declared):
    closure, argument = expression[3]
    checked = _check(closure, scope, declared)
    head, parts, _ = checked[1]
    expect(head == "fn", closure)
    argument = _check_kid(argument, parts[0], scope, declared)
    return ("apply", parts[1], None, (checked, argument), ())


def _check_raise(expression, scope, declared):
    _, _, (name, written), (payload,), _ = expression
    expect(isinstance(name, str) and name in declared.exception_patterns, expression)
    expect(declared.is_written_kind(written), expression)
    payload = _check_kid(payload, INT, scope, declared)
    number, _ = declared.exception_patterns[name]
    return ("raise", declared.numbered(written), number, (payload,), ())


def _check_case(expression, scope, declared):
    _, _, _, (kid,), arms = expression
    checked = _check(kid, scope, declared)
    head, number, _ = checked[1]
    expect(head == "data", kid)
    patterns = declared.constructor_patterns[number]
    arms = _check_arms(arms, patterns, None, scope, declared)
    expect(len(arms) == len(patterns), expression)
    return ("case", arms[0][2][1], None, (checked,), tuple(sorted(arms, key=lambda arm: arm[0])))


def _check_handle(expression, scope, declared):
    _, _, _, (kid,), arms = expression
    checked = _check(kid, scope, declared)
    arms = _check_arms(arms, declared.exception_patterns, checked[1], scope, declared)
    return ("handle", checked[1], None, (checked,), tuple(arms))


def _check_arms(arms, patterns, kind, scope, declared):
    """Return the list of arms, whose bodies must have a kind, or that of the first one if it is None.

    A name that an arm can have leads to its number and the kinds of the variables in patterns.
    """
    checked = {}
    for name, variables, body in arms:
        expect(isinstance(name, str) and name in patterns, body)
        number, kinds = patterns[name]
        expect(number not in checked and len(variables) == len(kinds) == len(set(variables)), body)
        inner = _check(body, inner_scope(scope, variables, kinds), declared)
        kind = inner[1] if kind is None else kind
        expect(inner[1] == kind, body)
        checked[number] = (number, variables, inner)
    return list(checked.values())


# The ops that are missing here are straight.
RULES = {
    "int": _check_int, "bool": _check_bool, "unit": _check_unit, "name": _check_name, "call": _check_call,
    "make": _check_make, "get": _check_get, "let": _check_let, "if": _check_if, "case": _check_case,
    "fn": _check_fn, "apply": _check_apply, "raise": _check_raise, "handle": _check_handle,
}
