"""Turning the functions of trees with kinds into steps."""

from escheat.scopes import inner_scope


def flat_function(function):
    """Return the function of a flat program for a function of a tree with kinds."""
    name, parameters, result, body = function
    kinds = tuple([kind for _, kind in parameters])
    flattening = Flattening(len(kinds))
    scope = {parameter: variable for variable, (parameter, _) in enumerate(parameters)}
    return (name, 0, (), kinds, result, flattening.flat_block(body, (), scope))


class Flattening:
    """The flattening of one function. The variables below count are taken."""

    def __init__(self, count):
        self.count = count

    def fresh(self):
        """Return the next variable."""
        self.count += 1
        return self.count - 1

    def flat_block(self, expression, names, scope):
        """Return the block of an expression, which binds variables with these names."""
        bind = tuple([self.fresh() for _ in names])
        steps = []
        value = self.add_steps(expression, inner_scope(scope, names, bind), steps)
        return (bind, tuple(steps), value)

    def add_steps(self, expression, scope, steps):
        """Append the steps of an expression to a list, and return the variable of its value."""
        op, kind, info, kids, _ = expression
        if op == "name":
            return scope[info]
        if op == "let":
            value = self.add_steps(kids[0], scope, steps)
            return self.add_steps(kids[1], inner_scope(scope, (info,), (value,)), steps)
        if op == "seq":
            self.add_steps(kids[0], scope, steps)
            return self.add_steps(kids[1], scope, steps)
        ins = tuple([self.add_steps(kid, scope, steps) for kid in kids[:_straight_kids(op, kids)]])
        blocks = self.flat_blocks(expression, scope)
        out = self.fresh()
        steps.append((op, out, kind, ins, _flat_info(expression), 0, (), blocks))
        return out

    def flat_blocks(self, expression, scope):
        """Return the tuple of the blocks of an expression's step."""
        op, _, info, kids, arms = expression
        if op == "fn":
            return (self.flat_block(kids[0], info[:1], scope),)
        if op == "if":
            return tuple([self.flat_block(kid, (), scope) for kid in kids[1:]])
        blocks = []
        if op == "handle":
            body = self.flat_block(kids[0], (), scope)
            value = self.fresh()
            blocks = [body, ((value,), (), value)]
        blocks.extend([self.flat_block(body, names, scope) for _, names, body in arms])
        return tuple(blocks)


def _straight_kids(op, kids):
    """Return the number of the kids of an expression that are not blocks; they come first."""
    if op in ("fn", "handle"):
        return 0
    return 1 if op == "if" else len(kids)


def _flat_info(expression):
    """Return the info of an expression's step."""
    op, _, info, _, arms = expression
    if op == "handle":
        return tuple([number for number, _, _ in arms])
    return None if op == "fn" else info
