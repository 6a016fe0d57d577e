"""Translating region programs into code: a body for each function, and behind them one for each fn step."""

from escheat.code_form import NO_REGION
from escheat.steps import free_variables


def translated_bodies(functions):
    """Return the tuple of the bodies of the functions of a safe region program."""
    # The bodies of closures are appended while those of the functions are written.
    bodies = [None for _ in functions]
    for number, function in enumerate(functions):
        _, _, _, kinds, _, block = function
        writer = BodyWriter(bodies)
        bodies[number] = writer.body(tuple(range(len(kinds))), (), NO_REGION, block)
    return tuple(bodies)


class BodyWriter:
    """The writing of one body. Its variables get the registers 0, 1, 2 and so on, as they come."""

    def __init__(self, bodies):
        self.bodies = bodies
        self.registers = {}
        self.instructions = []

    def body(self, bind, captured, region, block):
        """Return the body of a block whose bound variables are given besides those that it captures."""
        inputs = self.regs(bind)
        others = self.regs(captured)
        self.write_steps(block)
        self.write("return", self.reg(block[2]))
        return (inputs, others, region, len(self.registers), tuple(self.instructions))

    def reg(self, variable):
        """Return the register of a variable."""
        return self.registers.setdefault(variable, len(self.registers))

    def regs(self, variables):
        """Return the tuple of the registers of these variables."""
        return tuple([self.reg(variable) for variable in variables])

    def here(self):
        """Return the number of the next instruction."""
        return len(self.instructions)

    def write(self, *instruction):
        """Append an instruction."""
        self.instructions.append(instruction)

    def leave_out(self):
        """Leave an instruction out, and return its number: it is filled in when its targets are known."""
        self.instructions.append(None)
        return len(self.instructions) - 1

    def fill_in(self, number, *instruction):
        """Fill in an instruction that was left out."""
        self.instructions[number] = instruction

    def write_steps(self, block):
        """Append the instructions of the steps of a block."""
        for step in block[1]:
            writing = WRITINGS.get(step[0], _write_operation)
            writing(self, step)

    def write_block(self, block, variable):
        """Append the instructions of a block, whose value a variable gets."""
        self.write_steps(block)
        self.write("copy", self.reg(variable), self.reg(block[2]))

    def write_arms(self, blocks, variable):
        """Append blocks of which one is done, and whose value a variable gets; return the list of their places."""
        places = []
        jumps = []
        for block in blocks:
            if places:
                jumps.append(self.leave_out())
            places.append(self.here())
            self.write_block(block, variable)
        for jump in jumps:
            self.fill_in(jump, "jump", self.here())
        return places


def _write_literal(writer, step):
    # True is 1, and unit is 0.
    writer.write("set", writer.reg(step[1]), int(step[4] or 0))


def _write_make(writer, step):
    _, out, _, ins, number, region, _, _ = step
    if ins:
        writer.write("cell", writer.reg(out), region, (number,), writer.regs(ins))
    else:
        writer.write("set", writer.reg(out), number)


def _write_cell(writer, step):
    _, out, _, ins, _, region, _, _ = step
    writer.write("cell", writer.reg(out), region, (), writer.regs(ins))


def _write_fn(writer, step):
    _, out, _, _, _, region, _, (block,) = step
    captured = free_variables(block)
    number = len(writer.bodies)
    writer.bodies.append(None)
    inner = BodyWriter(writer.bodies)
    writer.bodies[number] = inner.body(block[0], captured, region, block)
    writer.write("closure", writer.reg(out), region, number, writer.regs(captured))


def _write_array(writer, step):
    _, out, _, ins, _, region, _, _ = step
    count, part = writer.regs(ins)
    writer.write("array", writer.reg(out), region, count, part)


def _write_get(writer, step):
    writer.write("load", writer.reg(step[1]), writer.reg(step[3][0]), step[4])


def _write_first(writer, step):
    # A reference has its value at offset 0, an array its length.
    writer.write("load", writer.reg(step[1]), writer.reg(step[3][0]), 0)


def _write_set(writer, step):
    reference, source = writer.regs(step[3])
    writer.write("store", reference, 0, source)
    _write_literal(writer, step)


def _write_item(writer, step):
    array, index = writer.regs(step[3])
    writer.write("item", writer.reg(step[1]), array, index)


def _write_put(writer, step):
    array, index, source = writer.regs(step[3])
    writer.write("put", array, index, source)
    _write_literal(writer, step)


def _write_print(writer, step):
    writer.write("print", writer.reg(step[3][0]))
    _write_literal(writer, step)


def _write_call(writer, step):
    _, out, _, ins, number, _, use, _ = step
    # What the function does not touch has the mode "none".
    passed = tuple([(formal, region, mode) for formal, (region, mode) in enumerate(use) if mode != "none"])
    writer.write("call", writer.reg(out), number, writer.regs(ins), passed)


def _write_raise(writer, step):
    writer.write("raise", step[4], writer.reg(step[3][0]))


def _write_if(writer, step):
    branch = writer.leave_out()
    _, other = writer.write_arms(step[7], step[1])
    writer.fill_in(branch, "branch", writer.reg(step[3][0]), other)


def _write_case(writer, step):
    switch = writer.leave_out()
    places = writer.write_arms(step[7], step[1])
    arms = [(place, writer.regs(block[0])) for place, block in zip(places, step[7])]
    writer.fill_in(switch, "switch", writer.reg(step[3][0]), tuple(arms))


def _write_handle(writer, step):
    _, out, _, _, numbers, _, kept, (body, normal, *others) = step
    opening = writer.leave_out()
    writer.write_block(body, normal[0][0])
    writer.write("untry")
    places = writer.write_arms([normal, *others], out)
    regs = [writer.reg(block[0][0]) for block in others]
    writer.fill_in(opening, "try", kept, tuple(zip(numbers, regs, places[1:])))


def _write_new(writer, step):
    writer.write("begin", step[5])


def _write_end(writer, step):
    writer.write("end", step[5])


def _write_operation(writer, step):
    first, second = writer.regs(step[3])
    writer.write(step[0], writer.reg(step[1]), first, second)


# The steps whose instruction has the name of the op and the registers of the ins are missing.
WRITINGS = {
    "int": _write_literal, "bool": _write_literal, "unit": _write_literal, "make": _write_make, "tuple": _write_cell,
    "get": _write_get, "call": _write_call, "fn": _write_fn, "ref": _write_cell, "deref": _write_first,
    "set": _write_set, "array": _write_array, "at": _write_item, "put": _write_put, "len": _write_first,
    "raise": _write_raise, "print": _write_print, "if": _write_if, "case": _write_case, "handle": _write_handle,
    "new": _write_new, "end": _write_end,
}
