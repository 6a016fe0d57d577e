"""Flat programs with more steps in them, so that blocks occur that flatten never makes.

The normal arms of handle steps, which have no steps in what flatten returns, get some in particular.
"""

from tests.helpers import INT, UNIT

PAIR = ("tuple", (INT, INT), 0)


def with_more_steps(program, random, share):
    """A flat program in which a share of the blocks has steps more that use what is in scope."""
    datas, exceptions, functions = program
    return (datas, exceptions, tuple(_function(function, datas, random, share) for function in functions))


def _function(function, datas, random, share):
    name, regions, touch, kinds, result, body = function
    more = More(datas, random, share)
    return (name, regions, touch, kinds, result, more.block(body, dict(enumerate(kinds)), share))


class More:
    def __init__(self, datas, random, share):
        self.datas = datas
        self.random = random
        self.share = share
        self.count = 100000

    def fresh(self):
        self.count += 1
        return self.count

    def block(self, block, scope, share):
        bind, steps, value = block
        scope = dict(scope)
        new = []
        for step in steps:
            if self.random.random() < share / 3:
                new.extend(self.readers(scope))
            new.append(self.step(step, scope))
            scope[step[1]] = step[2]
        if self.random.random() < share:
            new.extend(self.readers(scope))
        return (bind, tuple(new), value)

    def step(self, step, scope):
        """A step with more steps in its blocks."""
        op, _, kind, ins, info, _, _, blocks = step
        bound = [()] * len(blocks)
        if op == "fn":
            bound = [kind[1][:1]]
        if op == "case":
            bound = [fields for _, fields in self.datas[scope[ins[0]][1]][1]]
        if op == "handle":
            bound = [(), (kind,)] + [(INT,)] * len(info)
        inner = []
        for index, (block, kinds) in enumerate(zip(blocks, bound)):
            share = 0.8 if op == "handle" and index == 1 else self.share
            inner.append(self.block(block, {**scope, **dict(zip(block[0], kinds))}, share))
        return step[:7] + (tuple(inner),)

    def readers(self, scope):
        """Steps that use one variable or two that are in scope."""
        steps = []
        for _ in range(self.random.randint(1, 2) if scope else 0):
            variable = self.random.choice(sorted(scope))
            made = self.reader(variable, scope[variable])
            scope.update((step[1], step[2]) for step in made)
            steps.extend(made)
        return steps

    def reader(self, variable, kind):
        head, what, _ = kind
        out = self.fresh()
        if head == "tuple":
            index = self.random.randrange(len(what))
            return [("get", out, what[index], (variable,), index, 0, (), ())]
        if head == "ref":
            return [("deref", out, what[0], (variable,), None, 0, (), ())]
        if head == "array":
            return [("len", out, INT, (variable,), None, 0, (), ())]
        if head == "data":
            return [self.case(out, variable, self.datas[what][1])]
        if head == "int":
            return [("tuple", out, PAIR, (variable, variable), None, 0, (), ())]
        return [("ref", out, ("ref", (kind,), 0), (variable,), None, 0, (), ())]

    def case(self, out, variable, constructors):
        """A case step that reads the fields of a value again."""
        blocks = []
        for _, fields in constructors:
            bind = tuple(self.fresh() for _ in fields)
            tuples = [(at, field) for at, field in zip(bind, fields) if field[0] == "tuple"]
            steps = [one for at, field in tuples for one in self.reader(at, field)]
            value = self.fresh()
            blocks.append((bind, tuple(steps) + (("unit", value, UNIT, (), None, 0, (), ()),), value))
        return ("case", out, UNIT, (variable,), None, 0, (), tuple(blocks))
