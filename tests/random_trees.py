"""Random trees that with_kinds accepts, made with the kinds in mind."""

import random

FIRST = ("Div", "Index", "Size")
INT = ("int", (), 0)
BOOL = ("bool", (), 0)
UNIT = ("unit", (), 0)
LIST = ("data", "list", 0)
BOX = ("data", "box", 0)
PAIR = ("tuple", (INT, INT), 0)
DATAS = (
    ("list", (("Nil", ()), ("Cons", (INT, LIST)))),
    ("box", (("Box", (PAIR, LIST)), ("Job", (("fn", (INT, INT), 0),)), ("Cell", (("ref", (PAIR,), 0),)), ("No", ()))),
)
EXCEPTIONS = FIRST + ("lost",)
NUMBERS = (0, 1, 2, 3, 5, -1, 7, 12, 13, -2147483648, 2147483647)


def node(op, info=None, kids=(), arms=()):
    return (op, 0, info, tuple(kids), tuple(arms))


def number(value):
    return node("int", value)


class Maker:
    """A random tree, of which the expressions are made for a kind and with a number of levels at most."""

    def __init__(self, seed):
        self.random = random.Random(seed)
        self.functions = []
        self.left = 0
        self.count = 0

    def tree(self):
        for index in range(self.random.randint(0, 3)):
            kinds = [self.kind(2) for _ in range(self.random.randint(0, 3))]
            if self.random.random() < 0.7:
                kinds.insert(0, INT)
            self.function(f"f{index}", kinds, self.kind(2))
        self.function("main", [INT] * self.random.randint(0, 3), INT)
        return (DATAS, EXCEPTIONS, tuple(self.functions))

    def kind(self, depth):
        pick = self.random.choice
        if depth == 0 or self.random.random() < 0.3:
            return pick([INT, INT, BOOL, UNIT, LIST, BOX, PAIR])
        head = pick(["tuple", "tuple", "fn", "ref", "array"])
        many = {"tuple": self.random.randint(2, 3), "fn": 2}.get(head, 1)
        return (head, tuple(self.kind(depth - 1) for _ in range(many)), 0)

    def function(self, name, kinds, result):
        parameters = tuple((f"p{index}", kind) for index, kind in enumerate(kinds))
        self.signatures = [(f[0], [kind for _, kind in f[2]], f[3]) for f in self.functions]
        self.left = 70
        scope = list(parameters)
        if kinds and kinds[0] == INT and self.random.random() < 0.8:
            base = self.expression(result, scope, 9)
            self.signatures.append((name, kinds, result))
            test = node("less", None, (node("name", "p0"), number(self.random.choice([1, 2]))))
            body = node("if", None, (test, base, self.expression(result, scope, 10)))
        else:
            body = self.expression(result, scope, 11)
        self.functions.append((name, 0, parameters, result, body))

    def fresh(self):
        self.count += 1
        return f"v{self.count}"

    def expression(self, kind, scope, depth):
        self.left -= 1
        roll = self.random.random()
        if depth > 3 and self.left > 0 and roll < 0.75:
            rules = [self.let, self.let, self.branch, self.case, self.seq, self.handle, self.call, self.call,
                     self.part, self.content, self.element, self.apply]
            made = self.random.choice(rules)(kind, scope, depth - 1)
            if made is not None:
                return made
        return self.value(kind, scope, depth)

    def value(self, kind, scope, depth):
        """A variable or a value that is made on the spot."""
        names = [name for name, each in scope if each == kind]
        if names and self.random.random() < 0.6:
            return node("name", self.random.choice(names))
        if depth <= 1 and kind not in (INT, BOOL, UNIT, LIST):
            return node("name", self.random.choice(names)) if names else self.base(kind)
        return self.made(kind, scope, depth - 1)

    def base(self, kind):
        """The smallest expression of a kind; it may have to raise."""
        if kind in (INT, BOOL, UNIT, LIST, BOX):
            op, info = {"int": ("int", 1), "bool": ("bool", True), "unit": ("unit", None)}.get(kind[0], ("make", None))
            return node(op, {"list": "Nil", "box": "No"}[kind[1]] if op == "make" else info)
        return node("raise", ("lost", kind), (number(4),))

    def made(self, kind, scope, depth):
        head, what, _ = kind
        if depth < 1:
            return self.base(kind)
        if head == "int":
            return self.integer(scope, depth)
        if head == "bool":
            if self.random.random() < 0.4:
                return node("bool", self.random.random() < 0.5)
            return node(self.random.choice(["less", "equal"]), None, self.several([INT, INT], scope, depth))
        if head == "unit":
            return self.unit(scope, depth)
        if head == "data":
            constructors = dict(DATAS)[what]
            name, fields = self.random.choice(constructors)
            return node("make", name, self.several(fields, scope, depth))
        if head == "tuple":
            return node("tuple", None, self.several(what, scope, depth))
        if head == "fn":
            name = self.fresh()
            return node("fn", (name, what[0]), [self.expression(what[1], scope + [(name, what[0])], depth)])
        if head == "ref":
            return node("ref", None, self.several(what, scope, depth))
        many = number(self.random.choice([0, 1, 2, 3, 12, 13, -1]))
        return node("array", None, (many, self.expression(what[0], scope, depth)))

    def integer(self, scope, depth):
        if self.random.random() < 0.4:
            return number(self.random.choice(NUMBERS))
        if self.random.random() < 0.1:
            return node("len", None, self.several([("array", (INT,), 0)], scope, depth))
        op = self.random.choice(["add", "sub", "mul", "div", "rem"])
        return node(op, None, self.several([INT, INT], scope, depth))

    def unit(self, scope, depth):
        roll = self.random.random()
        if roll < 0.4:
            return node("print", None, self.several([INT], scope, depth))
        kind = self.random.choice([each for _, each in scope if each[0] in ("ref", "array")] or [None])
        if kind is None or roll < 0.5:
            return node("unit")
        part = kind[1][0]
        if kind[0] == "ref":
            return node("set", None, self.several([kind, part], scope, depth))
        return node("put", None, self.several([kind, INT, part], scope, depth))

    def several(self, kinds, scope, depth):
        return [self.expression(kind, scope, depth) for kind in kinds]

    def let(self, kind, scope, depth):
        name = self.fresh()
        other = self.kind(2)
        value = self.expression(other, scope, depth)
        return node("let", name, (value, self.expression(kind, scope + [(name, other)], depth)))

    def branch(self, kind, scope, depth):
        return node("if", None, self.several([BOOL, kind, kind], scope, depth))

    def case(self, kind, scope, depth):
        data = self.random.choice([LIST, LIST, BOX])
        value = self.expression(data, scope, depth)
        arms = []
        for name, fields in dict(DATAS)[data[1]]:
            names = [self.fresh() for _ in fields]
            arms.append((name, tuple(names), self.expression(kind, scope + list(zip(names, fields)), depth)))
        self.random.shuffle(arms)
        return node("case", None, (value,), arms)

    def seq(self, kind, scope, depth):
        other = self.random.choice([UNIT, UNIT, self.kind(1)])
        return node("seq", None, self.several([other, kind], scope, depth))

    def handle(self, kind, scope, depth):
        body = self.expression(kind, scope, depth)
        if self.random.random() < 0.3:
            payload = self.expression(INT, scope, depth)
            body = node("raise", (self.random.choice(EXCEPTIONS), kind), (payload,))
        arms = []
        for name in self.random.sample(EXCEPTIONS, self.random.randint(0, 3)):
            variable = self.fresh()
            arms.append((name, (variable,), self.expression(kind, scope + [(variable, INT)], depth)))
        return node("handle", None, (body,), arms)

    def call(self, kind, scope, depth):
        fitting = [each for each in self.signatures if each[2] == kind]
        if not fitting:
            return None
        name, kinds, _ = self.random.choice(fitting)
        kids = self.several(kinds, scope, depth)
        if kids and kinds[0] == INT and ("p0", INT) in scope:
            kids[0] = node("sub", None, (node("name", "p0"), number(1)))
        return node("call", name, kids)

    def part(self, kind, scope, depth):
        """A part of a tuple, if a variable in scope has one; else of a new one."""
        for name, each in self.random.sample(scope, len(scope)):
            if each[0] == "tuple" and kind in each[1]:
                return node("get", each[1].index(kind), (node("name", name),))
        kinds = [self.kind(1), kind]
        self.random.shuffle(kinds)
        return node("get", kinds.index(kind), (self.expression(("tuple", tuple(kinds), 0), scope, depth),))

    def content(self, kind, scope, depth):
        return node("deref", None, self.several([("ref", (kind,), 0)], scope, depth))

    def element(self, kind, scope, depth):
        return node("at", None, self.several([("array", (kind,), 0), INT], scope, depth))

    def apply(self, kind, scope, depth):
        for name, each in self.random.sample(scope, len(scope)):
            if each[0] == "fn" and each[1][1] == kind:
                return node("apply", None, (node("name", name), self.expression(each[1][0], scope, depth)))
        other = self.kind(1)
        return node("apply", None, self.several([("fn", (other, kind), 0), other], scope, depth))
