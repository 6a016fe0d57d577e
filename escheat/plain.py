"""The plain meaning of trees with kinds.

An evaluation keeps a list of tasks, the next one last, and a list of the values of the expressions that are done
and still needed. A task is a tuple (word, expression, scope):
- "begin": evaluate the expression.
- "finish": the values of the kids that come first are there; do what is left.
- "handler": the end of the body of a handle. In the place of the scope it has the scope and the number of values.
"""

from escheat.arithmetic import DIV, INDEX, SIZE, compute, divides_by_zero, wrap
from escheat.limits import MAX_ARRAY, MAX_FUEL
from escheat.outcome import Outcome
from escheat.scopes import inner_scope

# The ops that do not evaluate all of their kids before they go on, with the number of those that they do.
EARLY = {"let": 1, "if": 1}


def run(program, arguments, *, fuel=MAX_FUEL):
    """Return the result of a tree with kinds under the plain meaning."""
    evaluation = Evaluation(program, fuel)
    evaluation.evaluate(arguments)
    return evaluation.outcome.result()


class Evaluation:
    """A run of a tree with kinds."""

    def __init__(self, program, fuel):
        _, exceptions, functions = program
        self.exceptions = exceptions
        self.functions = functions
        self.outcome = Outcome(fuel)
        self.tasks = []
        self.done = []

    def evaluate(self, arguments):
        """Evaluate the main function's body for these arguments."""
        _, parameters, _, body = self.functions[-1]
        if len(arguments) != len(parameters):
            self.outcome.end_stuck()
            return
        self.begin(body, _bound(parameters, [wrap(argument) for argument in arguments]))
        while self.tasks and self.outcome.fault is None:
            self.do_task()
        if self.outcome.fault is None:
            self.outcome.returned = self.done[0]

    def do_task(self):
        """Do the next task."""
        word, expression, scope = self.tasks.pop()
        if word == "begin":
            action = BEGINNINGS.get(expression[0], _begin_kids)
            action(self, expression, scope)
        elif word == "finish":
            op, _, _, kids, _ = expression
            action = ENDS[op]
            action(self, expression, scope, self.take(EARLY.get(op, len(kids))))

    def begin(self, expression, scope):
        """Evaluate an expression next."""
        self.tasks.append(("begin", expression, scope))

    def give(self, value):
        """Let the expression that is evaluated have a value."""
        self.done.append(value)

    def take(self, many):
        """Take the last values away and return them as a list."""
        start = len(self.done) - many
        taken = self.done[start:]
        del self.done[start:]
        return taken

    def throw(self, number, payload):
        """Raise an exception: the tasks up to an arm of a handle that names it are not done."""
        while self.tasks:
            word, expression, scope = self.tasks.pop()
            if word == "handler":
                around, many = scope
                for name, variables, body in expression[4]:
                    if name == number:
                        del self.done[many:]
                        self.begin(body, inner_scope(around, variables, [payload]))
                        return
        self.outcome.fault = ("raised", self.exceptions[number], payload)


def _bound(parameters, values):
    """Return the scope of a function's body."""
    return {name: value for (name, _), value in zip(parameters, values)}


def _begin_kids(evaluation, expression, scope):
    op, _, _, kids, _ = expression
    evaluation.tasks.append(("finish", expression, scope))
    for kid in list(reversed(kids[:EARLY.get(op, len(kids))])):
        evaluation.begin(kid, scope)


def _begin_literal(evaluation, expression, scope):
    evaluation.give(expression[2])


def _begin_name(evaluation, expression, scope):
    evaluation.give(scope[expression[2]])


def _begin_fn(evaluation, expression, scope):
    (variable, _), (body,) = expression[2:4]
    evaluation.give((variable, body, scope))


def _begin_handle(evaluation, expression, scope):
    evaluation.tasks.append(("handler", expression, (scope, len(evaluation.done))))
    evaluation.begin(expression[3][0], scope)


BEGINNINGS = {
    "int": _begin_literal, "bool": _begin_literal, "unit": _begin_literal, "name": _begin_name,
    "fn": _begin_fn, "handle": _begin_handle,
}


def _end_call(evaluation, expression, scope, values):
    _, parameters, _, body = evaluation.functions[expression[2]]
    if evaluation.outcome.spend(1):
        evaluation.begin(body, _bound(parameters, values))


def _end_make(evaluation, expression, scope, values):
    evaluation.give((expression[2], values))


def _end_tuple(evaluation, expression, scope, values):
    evaluation.give(values)


def _end_get(evaluation, expression, scope, values):
    evaluation.give(values[0][expression[2]])


def _end_let(evaluation, expression, scope, values):
    evaluation.begin(expression[3][1], inner_scope(scope, (expression[2],), values))


def _end_if(evaluation, expression, scope, values):
    _, first, second = expression[3]
    evaluation.begin(first if values[0] else second, scope)


def _end_case(evaluation, expression, scope, values):
    number, fields = values[0]
    _, variables, body = expression[4][number]
    evaluation.begin(body, inner_scope(scope, variables, fields))


def _end_apply(evaluation, expression, scope, values):
    (variable, body, around), argument = values
    if evaluation.outcome.spend(1):
        evaluation.begin(body, inner_scope(around, (variable,), [argument]))


def _end_ref(evaluation, expression, scope, values):
    evaluation.give(values)


def _end_deref(evaluation, expression, scope, values):
    evaluation.give(values[0][0])


def _end_set(evaluation, expression, scope, values):
    reference, value = values
    reference[0] = value
    evaluation.give(None)


def _end_array(evaluation, expression, scope, values):
    many, element = values
    if not 0 <= many <= MAX_ARRAY:
        evaluation.throw(SIZE, many)
    elif evaluation.outcome.spend(many):
        evaluation.give([element] * many)


def _end_at(evaluation, expression, scope, values):
    array, index = values
    if not 0 <= index < len(array):
        evaluation.throw(INDEX, index)
    else:
        evaluation.give(array[index])


def _end_put(evaluation, expression, scope, values):
    array, index, value = values
    if not 0 <= index < len(array):
        evaluation.throw(INDEX, index)
    else:
        array[index] = value
        evaluation.give(None)


def _end_len(evaluation, expression, scope, values):
    evaluation.give(len(values[0]))


def _end_raise(evaluation, expression, scope, values):
    evaluation.throw(expression[2], values[0])


def _end_print(evaluation, expression, scope, values):
    evaluation.outcome.outs.append(values[0])
    evaluation.give(None)


def _end_seq(evaluation, expression, scope, values):
    evaluation.give(values[1])


def _end_operation(evaluation, expression, scope, values):
    op = expression[0]
    first, second = values
    if divides_by_zero(op, second):
        evaluation.throw(DIV, 0)
    else:
        evaluation.give(compute(op, first, second))


ENDS = {
    "call": _end_call, "make": _end_make, "tuple": _end_tuple, "get": _end_get, "let": _end_let, "if": _end_if,
    "case": _end_case, "apply": _end_apply, "ref": _end_ref, "deref": _end_deref, "set": _end_set,
    "array": _end_array, "at": _end_at, "put": _end_put, "len": _end_len, "raise": _end_raise,
    "print": _end_print, "seq": _end_seq, "add": _end_operation, "sub": _end_operation, "mul": _end_operation,
    "div": _end_operation, "rem": _end_operation, "equal": _end_operation, "less": _end_operation,
}
