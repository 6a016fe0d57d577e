"""Running flat programs, step by step.

The blocks that are running lie on a list, the innermost one last. Each of them belongs to the step at which the
block below it waits: a step with blocks, a call or an apply. A run of a region program, which keeps account of
the regions as well, is a class of its own and changes the methods that a flat run does nothing in.
"""

from escheat.arithmetic import DIV, INDEX, SIZE, compute, divides_by_zero, wrap
from escheat.limits import MAX_ARRAY
from escheat.outcome import Outcome


class Cell:
    """A value with parts, and the instance in which it lies. A constructor without fields is one, too.

    The parts are those of a tuple, the content of a reference, the elements of an array, the number of a constructor
    and its fields, or the step that made a closure and the variables of the frame in which it did.
    """

    def __init__(self, parts, instance):
        self.parts = parts
        self.instance = instance


class Frame:
    """A call of a function or of a closure: its variables, and its handles by their regions."""

    def __init__(self, variables, handles):
        self.variables = variables
        self.handles = handles


class Running:
    """A block that is running: its number among the blocks of its step, and the index of its own next step."""

    def __init__(self, frame, block, number):
        self.frame = frame
        self.block = block
        self.number = number
        self.at = 0

    def is_done(self):
        """Tell whether no step is left."""
        return self.at == len(self.block[1])

    def next_step(self):
        """Return the next step."""
        return self.block[1][self.at]


class FlatRun:
    """A run of a flat program."""

    def __init__(self, program, fuel):
        _, exceptions, functions = program
        self.exceptions = exceptions
        self.functions = functions
        self.outcome = Outcome(fuel)
        self.blocks = []

    def run_main(self, arguments):
        """Call the last function with these arguments."""
        if len(arguments) != len(self.functions[-1][3]):
            self.outcome.end_stuck()
            return
        self.enter_function(self.functions[-1], [wrap(argument) for argument in arguments], {})
        while self.blocks and self.outcome.fault is None:
            innermost = self.blocks[-1]
            if innermost.is_done():
                self.leave_block()
            else:
                self.do_step(innermost.frame, innermost.next_step())

    def do_step(self, frame, step):
        """Do a step, or begin it if it has blocks or is a call."""
        action = ACTIONS[step[0]]
        action(self, frame, step, [frame.variables[variable] for variable in step[3]])

    def enter_function(self, function, arguments, handles):
        """Begin a call of a function."""
        self.enter(Frame(dict(enumerate(arguments)), handles), function[5], 0, ())

    def enter(self, frame, block, number, values):
        """Begin a block, whose bound variables have these values."""
        for variable, value in zip(block[0], values):
            frame.variables[variable] = value
        self.blocks.append(Running(frame, block, number))

    def leave_block(self):
        """End the innermost block, which gives its value to its step."""
        inner = self.blocks.pop()
        value = inner.frame.variables[inner.block[2]]
        if not self.blocks:
            self.outcome.returned = value
            return
        step = self.blocks[-1].next_step()
        if step[0] == "handle" and inner.number == 0:
            self.enter(inner.frame, step[7][1], 1, (value,))
        else:
            self.give(value)

    def give(self, value):
        """Let the step at which the innermost block stands have a value, and go on behind it."""
        innermost = self.blocks[-1]
        innermost.frame.variables[innermost.next_step()[1]] = value
        innermost.at += 1

    def throw(self, number, payload):
        """Raise an exception: end blocks and frames up to a handle step that has an arm for it."""
        while len(self.blocks) > 1:
            inner = self.blocks.pop()
            op, _, _, _, info, _, kept, blocks = self.blocks[-1].next_step()
            if op == "handle" and inner.number == 0 and number in info:
                arm = 2 + info.index(number)
                self.catch(inner.frame, kept)
                self.enter(inner.frame, blocks[arm], arm, (payload,))
                return
            if op in ("call", "apply"):
                self.leave_frame(inner.frame)
        self.leave_frame(self.blocks.pop().frame)
        self.outcome.fault = ("raised", self.exceptions[number], payload)

    def give_cell(self, frame, step, parts):
        """Make a cell for a step, which has it as its value."""
        self.give(Cell(parts, None))

    def touch(self, cell):
        """Read or write a cell, and tell whether the run goes on."""
        return True

    def handles_at_call(self, frame, step):
        """Return the handles of the function that a call step of a frame calls."""
        return {}

    def handles_of_closure(self, closure):
        """Return the handles of the frame of a call of a closure."""
        return {}

    def begin_region(self, frame, region):
        """Begin a region at a step of a frame."""

    def end_region(self, frame, region):
        """Give a region back at a step of a frame."""

    def catch(self, frame, kept):
        """Look at a frame one of whose handle steps, which keeps these regions, catches an exception."""

    def leave_frame(self, frame):
        """Look at a frame that an exception leaves."""


def _literal(run, frame, step, values):
    run.give(step[4])


def _make(run, frame, step, values):
    parts = [step[4], *values]
    if values:
        run.give_cell(frame, step, parts)
    else:
        run.give(Cell(parts, None))


def _tuple(run, frame, step, values):
    run.give_cell(frame, step, values)


def _get(run, frame, step, values):
    if run.touch(values[0]):
        run.give(values[0].parts[step[4]])


def _call(run, frame, step, values):
    if run.outcome.spend(1):
        run.enter_function(run.functions[step[4]], values, run.handles_at_call(frame, step))


def _fn(run, frame, step, values):
    # The maker's variables as they are: what it still adds is not in scope in the closure's block.
    run.give_cell(frame, step, [step, frame.variables])


def _apply(run, frame, step, values):
    closure, argument = values
    if run.outcome.spend(1) and run.touch(closure):
        maker, variables = closure.parts
        inner = Frame(dict(variables), run.handles_of_closure(closure))
        run.enter(inner, maker[7][0], 0, (argument,))


def _deref(run, frame, step, values):
    if run.touch(values[0]):
        run.give(values[0].parts[0])


def _set(run, frame, step, values):
    reference, value = values
    if run.touch(reference):
        reference.parts[0] = value
        run.give(None)


def _array(run, frame, step, values):
    many, element = values
    if not 0 <= many <= MAX_ARRAY:
        run.throw(SIZE, many)
    elif run.outcome.spend(many):
        run.give_cell(frame, step, [element] * many)


def _at(run, frame, step, values):
    array, index = values
    if run.touch(array):
        if not 0 <= index < len(array.parts):
            run.throw(INDEX, index)
        else:
            run.give(array.parts[index])


def _put(run, frame, step, values):
    array, index, value = values
    if run.touch(array):
        if not 0 <= index < len(array.parts):
            run.throw(INDEX, index)
        else:
            array.parts[index] = value
            run.give(None)


def _len(run, frame, step, values):
    if run.touch(values[0]):
        run.give(len(values[0].parts))


def _raise(run, frame, step, values):
    run.throw(step[4], values[0])


def _print(run, frame, step, values):
    run.outcome.outs.append(values[0])
    run.give(None)


def _operation(run, frame, step, values):
    op = step[0]
    first, second = values
    if divides_by_zero(op, second):
        run.throw(DIV, 0)
    else:
        run.give(compute(op, first, second))


def _if(run, frame, step, values):
    number = 0 if values[0] else 1
    run.enter(frame, step[7][number], number, ())


def _case(run, frame, step, values):
    number, *fields = values[0].parts
    if not fields or run.touch(values[0]):
        run.enter(frame, step[7][number], number, fields)


def _handle(run, frame, step, values):
    run.enter(frame, step[7][0], 0, ())


def _new(run, frame, step, values):
    run.begin_region(frame, step[5])
    run.give(None)


def _end(run, frame, step, values):
    run.end_region(frame, step[5])
    run.give(None)


ACTIONS = {
    "int": _literal, "bool": _literal, "unit": _literal, "make": _make, "tuple": _tuple, "get": _get, "call": _call,
    "fn": _fn, "apply": _apply, "ref": _tuple, "deref": _deref, "set": _set, "array": _array, "at": _at, "put": _put,
    "len": _len, "raise": _raise, "print": _print, "if": _if, "case": _case, "handle": _handle,
    "add": _operation, "sub": _operation, "mul": _operation, "div": _operation, "rem": _operation,
    "equal": _operation, "less": _operation, "new": _new, "end": _end,
}
