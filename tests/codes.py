"""Code for the tests: put together by hand, or random but well formed."""

from tests.helpers import FIRST


def body(*instructions, inputs=(0,), captured=(), region=-1, registers=9):
    return (tuple(inputs), tuple(captured), region, registers, instructions)


def code(*bodies, exceptions=(), main=None):
    """Code of these bodies, of which the last one is the main body."""
    return (FIRST + exceptions, bodies, len(bodies) - 1 if main is None else main)


def main_of(*instructions, **more):
    """Code with one body, whose argument is in register 0."""
    return code(body(*instructions, **more))


RIGHT_ENDS = ("return", "raise")


class Maker:
    """Random well-formed code, in which much happens before something is stuck."""

    def __init__(self, random):
        self.random = random
        self.registers = 6
        self.names = (0, 1, 2)

    def code(self):
        """Code with functions, with closures' bodies between them, and with a main body."""
        heads = []
        for _ in range(self.random.randint(0, 3)):
            many = self.random.randint(0, 2)
            if self.random.random() < 0.5:
                heads.append((tuple(self.regs(1)), tuple(self.regs(many)), self.random.choice(self.names)))
            else:
                heads.append((tuple(self.regs(many)), (), -1))
        heads.append((tuple(self.regs(self.random.randint(0, 2))), (), -1))
        self.heads = heads
        bodies = [(*head, self.registers, self.instructions(head)) for head in heads]
        return (FIRST + ("lost", "lost"), tuple(bodies), len(bodies) - 1)

    def reg(self):
        return self.random.randrange(self.registers)

    def regs(self, many):
        return [self.reg() for _ in range(many)]

    def name(self):
        return self.random.choice(self.names)

    def instructions(self, head):
        """Instructions that begin with what makes a region and a few values, and end in a return or a raise."""
        rows = []
        if head[2] == -1:
            rows.extend([("begin", name) for name in self.names if self.random.random() < 0.8])
        for register in range(self.registers):
            if self.random.random() < 0.4:
                rows.append(("set", register, self.random.choice([0, 1, 2, 3, 5, 12, 13, -1, 64, 67, 72, 10 ** 12])))
        self.count = len(rows) + self.random.randint(3, 14) + 1
        while len(rows) < self.count - 1:
            rows.append(self.instruction(len(rows)))
        last = ("return", self.reg()) if self.random.random() < 0.8 else ("raise", self.random.randrange(5), self.reg())
        return (*rows, last)

    def place(self, index):
        return self.random.randint(index + 1, min(index + 4, self.count - 1))

    def instruction(self, index):
        pick = self.random.choice
        ops = ("cell cell cell closure array load load store item put switch switch branch jump call call call apply "
               "apply begin end end try try try untry raise raise print print add sub mul div rem equal less copy set")
        op = pick(ops.split())
        if op in ("add", "sub", "mul", "div", "rem", "equal", "less", "item", "put", "apply"):
            return (op, *self.regs(3))
        if op == "cell":
            head = pick([(), (0,), (1,), (2,)])
            return (op, self.reg(), self.name(), head, tuple(self.regs(self.random.choice([1, 2, 3, 9]))))
        if op == "array":
            return (op, self.reg(), self.name(), self.reg(), self.reg())
        if op == "load":
            return (op, self.reg(), self.reg(), pick([0, 1, 2, 63]))
        if op == "store":
            return (op, self.reg(), pick([0, 0, 1, 2]), self.reg())
        if op == "switch":
            arms = [(self.place(index), tuple(self.regs(self.random.randint(0, 3)))) for _ in range(3)]
            return (op, self.reg(), tuple(arms[:pick([1, 2, 3, 3])]))
        if op == "branch":
            return (op, self.reg(), self.place(index))
        if op == "jump":
            return (op, self.place(index))
        if op in ("begin", "end"):
            return (op, self.name())
        if op == "try":
            numbers = self.random.sample(range(5), self.random.randint(0, 4))
            arms = tuple((number, self.reg(), self.place(index)) for number in numbers)
            return (op, tuple(name for name in self.names if self.random.random() < 0.4), arms)
        if op == "raise":
            return (op, self.random.randrange(5), self.reg())
        if op in ("closure", "call"):
            return self.code_instruction(op)
        if op == "set":
            return (op, self.reg(), pick([0, 1, 2, 66, -3, 2 ** 31]))
        return (op,) if op == "untry" else (op, *self.regs({"copy": 2, "print": 1}[op]))

    def code_instruction(self, op):
        """A closure or a call of a body that there is, or a print."""
        fitting = [number for number, head in enumerate(self.heads) if (head[2] >= 0) == (op == "closure")]
        if not fitting:
            return ("print", self.reg())
        number = self.random.choice(fitting)
        inputs, captured, _ = self.heads[number]
        if op == "closure":
            return (op, self.reg(), self.name(), number, tuple(self.regs(len(captured))))
        handles = [(name, self.name(), self.random.choice(["keep", "last"])) for name in self.names]
        handles = tuple(handle for handle in handles if self.random.random() < 0.7)
        return (op, self.reg(), number, tuple(self.regs(len(inputs))), handles)
