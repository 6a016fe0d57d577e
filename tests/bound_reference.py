"""Certificates checked in another way than the program does: slowly, and close to the document's words.

A linear expression is a dict from the names of path variables to their coefficients; the constant has the name 1. Path
variables have names of their own wherever they are introduced. The program must be one that regions.check accepts, and
the certificates must have the right form.
"""

import copy

LIMIT = 1000000000000
ARRAY = 12
SIZED = ("int", "array", "tuple", "data")


class Refused(Exception):
    pass


def plus(*all_of):
    total = {}
    for one in all_of:
        for name, many in one.items():
            total[name] = total.get(name, 0) + many
    return total


def times(number, one):
    return {name: number * many for name, many in one.items()}


def number(value):
    return {1: value}


def less_constant(one, amount):
    return {**one, 1: max(one.get(1, 0) - amount, 0)}


def is_at_most(one, other):
    return all(many <= other.get(name, 0) for name, many in one.items())


def is_great(one):
    return any(many > LIMIT for many in one.values())


def least_above(several):
    names = {name for one in several for name in one}
    return {name: max(one.get(name, 0) for one in several) for name in names}


def only_variable(one):
    """The name of the path variable that an expression is exactly, or None."""
    if one is None:
        return None
    there = {name: many for name, many in one.items() if many}
    (name, many), *others = there.items() or [(1, 1)]
    return name if not others and many == 1 and name != 1 else None


def replaced(one, name, m, new):
    """An expression with m plus new path variables in the place of one."""
    rest = {each: many for each, many in one.items() if each != name}
    many = one.get(name, 0)
    return plus(rest, {1: m * many}, {each: many for each in new})


def removed(one, name, m, new):
    greatest = max(one.get(each, 0) for each in new)
    rest = {each: many for each, many in one.items() if each not in new}
    return less_constant({**rest, name: greatest}, m * greatest)


def captured(block):
    used, bound = set(), set()

    def look(part):
        bind, steps, value = part
        bound.update(bind)
        used.add(value)
        for step in steps:
            bound.add(step[1])
            used.update(step[3])
            for inner in step[7]:
                look(inner)

    look(block)
    return used - bound


def holds(program, certificates, index):
    """Whether the certificate with an index holds by the rules."""
    try:
        Visit(program, certificates, certificates[index]).body()
    except Refused:
        return False
    return True


class Visit:
    def __init__(self, program, certificates, certificate):
        self.datas, _, self.functions = program
        self.certificates = {each[:2]: each for each in certificates}
        number_, self.mine, peak, growth, size = certificate
        self.function = self.functions[number_]
        parameters = range(len(self.function[3]))
        self.names = [("p", one) for one in parameters] + [("r", region) for region in self.mine]
        others = [region for region in self.function[2] if region not in self.mine]
        self.claims = {"peak": self.expression(peak), "size": None if size is None else self.expression(size)}
        self.claims.update({region: self.expression(one) for region, one in zip(others, growth)})
        self.count = 0
        self.kinds = dict(enumerate(self.function[3]))
        self.bounds = {one: {("p", one): 1} for one in parameters}
        self.least = {}
        self.constants = {}
        self.lesses = {}
        self.held = {region: {("r", region): 1} for region in self.mine}
        self.grown = {region: {} for region in others}
        self.introduced = []

    def expression(self, numbers):
        return plus(number(numbers[0]), dict(zip(self.names, numbers[1:])))

    def fresh(self):
        self.count += 1
        return ("new", self.count)

    def refuse_if(self, wrong):
        if wrong:
            raise Refused

    def now(self, without=()):
        return plus(*[one for region, one in self.held.items() if region not in without], *self.grown.values())

    def check_now(self):
        everything = [*self.held.values(), *self.grown.values(), self.now()]
        self.refuse_if(any(is_great(one) for one in everything))

    def bound(self, variable, one):
        self.bounds[variable] = None if one is None or is_great(one) else one

    def body(self):
        self.refuse_if(not is_at_most(self.now(), self.claims["peak"]))
        self.block(self.function[5], True)

    def block(self, block, final):
        """Visit a block; final tells whether its value is the result of the function."""
        _, steps, value = block
        for index, step in enumerate(steps):
            last = final and index == len(steps) - 1 and step[1] == value
            self.step(step, last and step[0] in ("if", "case", "handle"))
            self.kinds[step[1]] = step[2]
            if last and step[0] in ("if", "case", "handle"):
                return
        if final and self.claims["size"] is not None:
            one = self.bounds[value]
            self.refuse_if(one is None or not is_at_most(one, self.claims["size"]))

    def step(self, step, final):
        op, out, kind, ins, info, region, use, blocks = step
        if op in ("if", "case", "handle"):
            self.branches(step, final)
        elif op == "apply":
            raise Refused
        elif op == "call":
            self.call(step)
        elif op == "new":
            self.held[region] = {}
        elif op == "end":
            self.held.pop(region, None)
        else:
            words = self.words(step)
            if words is not None:
                self.add(region, words)
                self.refuse_if(not is_at_most(self.now(), self.claims["peak"]))
            self.bound(out, self.known(step, words))
            if op == "less":
                self.lesses[out] = ins

    def add(self, region, words):
        if region in self.held:
            self.held[region] = plus(self.held[region], words)
        else:
            self.grown[region] = plus(self.grown[region], words)
            self.refuse_if(not is_at_most(self.grown[region], self.claims[region]))
        self.check_now()

    def words(self, step):
        op, _, _, ins, _, _, _, blocks = step
        if op == "make" and ins:
            return number(1 + len(ins))
        if op == "tuple":
            return number(len(ins))
        if op == "ref":
            return number(1)
        if op == "fn":
            return number(2 + len(captured(blocks[0])))
        if op == "array":
            if ins[0] in self.constants and not 0 <= self.constants[ins[0]] <= ARRAY:
                return None
            return plus(number(1), self.count_of(ins[0]))
        return None

    def count_of(self, variable):
        return number(ARRAY) if self.bounds[variable] is None else self.bounds[variable]

    def natural(self, variable):
        return variable in self.least and self.least[variable] >= 0

    def known(self, step, words):
        """The bound of what a step defines; the least value and the constant are noted."""
        op, out, kind, ins, info, _, _, _ = step
        head = kind[0]
        bounds = [self.bounds[one] for one in ins]
        if op == "int":
            self.constants[out] = self.least[out] = info
            return number(max(info, 0))
        if op == "add":
            if self.natural(ins[0]) and self.natural(ins[1]) and None not in bounds:
                return plus(*bounds)
            return None
        if op == "sub":
            c = self.constants.get(ins[1])
            if c is None or c < 0 or not self.natural(ins[0]):
                return None
            self.least[out] = self.least[ins[0]] - c
            return None if bounds[0] is None else less_constant(bounds[0], c)
        if op == "mul":
            for one, other in ((0, 1), (1, 0)):
                c = self.constants.get(ins[one])
                if c is not None and c >= 0 and self.natural(ins[other]):
                    return None if bounds[other] is None else times(c, bounds[other])
            return None
        if op in ("div", "rem"):
            return None
        if op == "len":
            self.least[out] = 0
            return self.count_of(ins[0])
        if op == "array":
            return number(0) if words is None else self.count_of(ins[0])
        if op == "tuple" or op == "make" and ins:
            inner = [self.bounds[one] for one in ins if self.kinds[one][0] in ("tuple", "data")]
            return None if None in inner else plus(words, *inner)
        if op == "get":
            if head in ("tuple", "data"):
                return bounds[0]
            return None if head in ("int", "array") else number(0)
        if op in ("deref", "at"):
            return None if head in SIZED else number(0)
        if op == "raise" and head == "int":
            self.least[out] = 0
        return number(0)

    def call(self, step):
        _, out, kind, ins, callee, _, use, _ = step
        formals = tuple(at for at, (region, mode) in enumerate(use) if mode == "last" and region in self.held)
        self.refuse_if((callee, formals) not in self.certificates)
        _, _, peak, growth, size = self.certificates[callee, formals]
        taken = [use[at][0] for at in formals]
        values = [self.bounds[one] for one in ins] + [self.held[region] for region in taken]

        def is_known(numbers):
            return all(value is not None or many == 0 for many, value in zip(numbers[1:], values))

        def at_values(numbers):
            parts = [times(many, value) for many, value in zip(numbers[1:], values) if many]
            return plus(number(numbers[0]), *parts)

        self.refuse_if(not all(is_known(numbers) for numbers in (peak, *growth)))
        self.refuse_if(not is_at_most(plus(self.now(taken), at_values(peak)), self.claims["peak"]))
        for region in taken:
            del self.held[region]
        others = [formal for formal in self.functions[callee][2] if formal not in formals]
        for formal, numbers in zip(others, growth):
            self.add(use[formal][0], at_values(numbers))
        if size is not None and is_known(size):
            self.bound(out, at_values(size))
        else:
            self.bound(out, None if kind[0] in SIZED else number(0))

    def state(self):
        return copy.deepcopy({name: getattr(self, name) for name in (
            "claims", "bounds", "least", "constants", "held", "grown", "introduced", "kinds")})

    def go_to(self, state):
        for name, value in copy.deepcopy(state).items():
            setattr(self, name, value)

    def branches(self, step, final):
        op, out, _, ins, info, _, use, blocks = step
        before = self.state()
        arms = list(blocks)
        begin = before
        if op == "handle":
            body = arms.pop(0)
            self.block(body, False)
            begin = self.state()
        ends = []
        for index, block in enumerate(arms):
            self.go_to(begin)
            if op == "if":
                self.enter_if(ins[0], index)
            if op == "case":
                self.enter_case(ins[0], block[0], index)
            if op == "handle":
                self.enter_arm(body[2], block[0][0], index, use)
            self.block(block, final)
            if not final:
                ends.append(self.end_of_block(block[2], len(before["introduced"])))
        if not final:
            self.go_to(before)
            self.join(out, ends)

    def enter_if(self, condition, index):
        if condition in self.lesses:
            x, y = self.lesses[condition]
            if index == 0 and x in self.constants:
                self.at_least(y, self.constants[x] + 1)
            if index == 1 and y in self.constants:
                self.at_least(x, self.constants[y])

    def at_least(self, variable, m):
        if variable not in self.least or self.least[variable] < m:
            self.least[variable] = m
            name = only_variable(self.bounds[variable])
            if m > 0 and name is not None:
                self.introduce(name, m, [self.fresh()])

    def enter_case(self, value, bind, index):
        _, data, _ = self.kinds[value]
        fields = self.datas[data][1][index][1]
        for variable, field in zip(bind, fields):
            self.kinds[variable] = field
        if not fields:
            return
        words = 1 + len(fields)
        nested = [one for one in bind if self.kinds[one][0] in ("tuple", "data")]
        name = only_variable(self.bounds[value])
        if name is not None:
            new = [self.fresh() for _ in nested]
            self.introduce(name, words, [*new, self.fresh()])
            inner = [{each: 1} for each in new]
        else:
            whole = self.bounds[value]
            inner = [None if whole is None else less_constant(whole, words) for _ in nested]
        for one in bind:
            self.bounds[one] = None if self.kinds[one][0] in ("int", "array") else number(0)
        self.bounds.update(zip(nested, inner))

    def enter_arm(self, value, variable, index, kept):
        self.kinds[variable] = ("int", (), 0)
        if index == 0:
            self.kinds[variable] = self.kinds[value]
            self.bounds[variable] = self.bounds[value]
            for known in (self.least, self.constants):
                if value in known:
                    known[variable] = known[value]
        else:
            self.held = {region: one for region, one in self.held.items() if region in kept}
            self.bounds[variable] = None

    def introduce(self, name, m, new):
        self.introduced.append((name, m, new))
        for variable, one in list(self.bounds.items()):
            self.bound(variable, None if one is None else replaced(one, name, m, new))
        for words in (self.held, self.grown):
            for region, one in list(words.items()):
                words[region] = replaced(one, name, m, new)
        for part, one in list(self.claims.items()):
            if one is not None:
                self.claims[part] = replaced(one, name, m, new)
                self.refuse_if(is_great(self.claims[part]))
        self.check_now()

    def end_of_block(self, value, many):
        """What is held and grown and known of the value, without the path variables that came for the block."""
        def back(one):
            for name, m, new in reversed(self.introduced[many:]):
                one = None if one is None else removed(one, name, m, new)
            return one

        held = {region: back(one) for region, one in self.held.items()}
        grown = {region: back(one) for region, one in self.grown.items()}
        return held, grown, back(self.bounds[value]), self.least.get(value)

    def join(self, out, ends):
        live = ends[0][0]
        self.held = {region: least_above([self.held[region], *[end[0][region] for end in ends]]) for region in live}
        for region, one in list(self.grown.items()):
            self.grown[region] = least_above([one, *[end[1][region] for end in ends]])
        bounds = [end[2] for end in ends]
        self.bounds[out] = None if None in bounds else least_above(bounds)
        least = [end[3] for end in ends]
        if None not in least:
            self.least[out] = min(least)
        self.check_now()
