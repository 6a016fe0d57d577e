"""Runs of code, instruction by instruction.

A deed without a meaning that has to do with a region raises StoreError, which ends the run at once.
"""

from escheat.arithmetic import DIV, INDEX, SIZE, compute, divides_by_zero, wrap
from escheat.code_form import NO_REGION
from escheat.errors import StoreError
from escheat.limits import FIRST_ADDRESS, MAX_ARRAY
from escheat.memory import Store
from escheat.metering import Meter
from escheat.outcome import Outcome


class CodeFrame:
    """A call of a body.

    - registers: the registers that have been assigned; all others are 0. There may be any number of them.
    - at: the number of the next instruction.
    - handlers: the open handlers, pairs (kept, arms).
    - handles: for names of regions, a pair: the instance, and whether the handle owns it.
    - into: the register of the caller that becomes what the call returns.
    """

    def __init__(self, body, values, handles, into):
        inputs, captured, _, _, instructions = body
        self.instructions = instructions
        self.registers = {}
        for reg, value in zip([*inputs, *captured], values):
            self.registers[reg] = value
        self.at = 0
        self.handlers = []
        self.handles = handles
        self.into = into

    def content(self, reg):
        """Return what a register holds."""
        return self.registers.get(reg, 0)

    def contents(self, regs):
        """Return the list of what these registers hold."""
        return [self.content(reg) for reg in regs]

    def handle(self, name):
        """Return the handle of a region, or raise StoreError if there is none."""
        if name not in self.handles:
            raise StoreError("region")
        return self.handles[name]

    def take_handler(self, number):
        """Return the newest handler with an arm for an exception, closing it and all newer ones, or None."""
        for index in reversed(range(len(self.handlers))):
            kept, arms = self.handlers[index]
            for exception, reg, place in arms:
                if exception == number:
                    del self.handlers[index:]
                    return (kept, reg, place)
        return None


class CodeRun:
    """A run of well-formed code."""

    def __init__(self, code, fuel):
        self.exceptions, self.bodies, self.main = code
        self.outcome = Outcome(fuel)
        self.store = Store()
        self.meter = Meter()
        self.frames = []

    def run_main(self, arguments):
        """Call the main body with these arguments."""
        body = self.bodies[self.main]
        if len(arguments) != len(body[0]):
            self.outcome.end_stuck()
            return
        self.enter(body, [wrap(argument) for argument in arguments], {}, 0)
        while self.frames and self.outcome.fault is None:
            try:
                self.do_instruction(self.frames[-1])
            except StoreError:
                self.outcome.end_stuck()

    def metered(self):
        """Return the metered run."""
        return (self.outcome.result(), self.meter.peak, self.meter.total, tuple(self.meter.events))

    def do_instruction(self, frame):
        """Do the next instruction of the innermost frame."""
        op, *operands = frame.instructions[frame.at]
        frame.at += 1
        action = ACTIONS.get(op)
        if action is None:
            _operation(self, frame, op, operands)
        else:
            action(self, frame, *operands)

    def enter(self, body, values, handles, into):
        """Begin a frame, whose inputs and captured registers have these values."""
        self.frames.append(CodeFrame(body, values, handles, into))

    def leave(self, value):
        """End the innermost frame, which returns a value."""
        frame = self.frames.pop()
        if self.frames:
            self.frames[-1].registers[frame.into] = value
        else:
            self.outcome.returned = value

    def word(self, pointer, offset):
        """Return the word of a pointer at an offset."""
        return self.store.read(pointer - FIRST_ADDRESS + offset)

    def change_word(self, pointer, offset, word):
        """Replace the word of a pointer at an offset."""
        self.store.write(pointer - FIRST_ADDRESS + offset, word)

    def touch(self, pointer):
        """Note that what a pointer points to is read or written."""
        self.meter.note("touch", self.store.owner(pointer - FIRST_ADDRESS), 0)

    def make_cell(self, frame, reg, name, words):
        """Make a cell with these words, to which a register points then."""
        instance, _ = frame.handle(name)
        address = self.store.cell(instance, len(words))
        for offset, word in enumerate(words):
            self.store.write(address + offset, word)
        self.meter.add_cell(instance, len(words))
        frame.registers[reg] = address + FIRST_ADDRESS

    def begin_instance(self):
        """Begin an instance and return its number."""
        self.meter.begin()
        return self.store.begin()

    def end_instance(self, instance):
        """End an instance."""
        self.store.end(instance)
        self.meter.end(instance)

    def throw(self, number, payload):
        """Raise an exception: end frames up to one with an open handler that has an arm for it."""
        while self.frames:
            frame = self.frames[-1]
            handler = frame.take_handler(number)
            if handler is not None:
                kept, reg, place = handler
                self.end_owned(frame, kept)
                frame.registers[reg] = payload
                frame.at = place
                return
            self.end_owned(frame, ())
            self.frames.pop()
        self.outcome.fault = ("raised", self.exceptions[number], payload)

    def end_owned(self, frame, kept):
        """End the instances that a frame owns by handles whose names are not kept, and remove what owned them."""
        owned = [(name, instance) for name, (instance, owns) in frame.handles.items() if owns]
        ending = sorted(set([instance for name, instance in owned if name not in kept]))
        for name, instance in owned:
            if instance in ending:
                del frame.handles[name]
        for instance in ending:
            self.end_instance(instance)


def _set(run, frame, reg, number):
    frame.registers[reg] = number


def _copy(run, frame, reg, source):
    frame.registers[reg] = frame.content(source)


def _cell(run, frame, reg, name, head, regs):
    run.make_cell(frame, reg, name, [*head, *frame.contents(regs)])


def _closure(run, frame, reg, name, body, regs):
    instance, _ = frame.handle(name)
    run.make_cell(frame, reg, name, [body, instance, *frame.contents(regs)])


def _array(run, frame, reg, name, count, element):
    many = frame.content(count)
    if not 0 <= many <= MAX_ARRAY:
        run.throw(SIZE, many)
    elif run.outcome.spend(many):
        run.make_cell(frame, reg, name, [many] + [frame.content(element)] * many)


def _load(run, frame, reg, pointer, offset):
    run.touch(frame.content(pointer))
    frame.registers[reg] = run.word(frame.content(pointer), offset)


def _store(run, frame, pointer, offset, source):
    run.touch(frame.content(pointer))
    run.change_word(frame.content(pointer), offset, frame.content(source))


def _item(run, frame, reg, array, place):
    pointer, index = frame.contents((array, place))
    run.touch(pointer)
    if 0 <= index < run.word(pointer, 0):
        frame.registers[reg] = run.word(pointer, 1 + index)
    else:
        run.throw(INDEX, index)


def _put(run, frame, array, place, source):
    pointer, index, word = frame.contents((array, place, source))
    run.touch(pointer)
    if 0 <= index < run.word(pointer, 0):
        run.change_word(pointer, 1 + index, word)
    else:
        run.throw(INDEX, index)


def _switch(run, frame, reg, arms):
    number = pointer = frame.content(reg)
    has_cell = not 0 <= pointer < FIRST_ADDRESS
    if has_cell:
        run.touch(pointer)
        number = run.word(pointer, 0)
    if not 0 <= number < len(arms):
        run.outcome.end_stuck()
        return
    place, regs = arms[number]
    if has_cell:
        for index, field in enumerate(regs):
            frame.registers[field] = run.word(pointer, 1 + index)
    frame.at = place


def _branch(run, frame, reg, place):
    if frame.content(reg) == 0:
        frame.at = place


def _jump(run, frame, place):
    frame.at = place


def _call(run, frame, reg, body, regs, passed):
    if not run.outcome.spend(1):
        return
    handles = {}
    for name, region, mode in passed:
        instance, owns = frame.handle(region)
        handles[name] = (instance, owns and mode == "last")
    for _, region, mode in passed:
        if mode == "last":
            frame.handles.pop(region, None)
    run.enter(run.bodies[body], frame.contents(regs), handles, reg)


def _apply(run, frame, reg, closure, argument):
    if not run.outcome.spend(1):
        return
    pointer = frame.content(closure)
    run.touch(pointer)
    number, instance = run.word(pointer, 0), run.word(pointer, 1)
    if not 0 <= number < len(run.bodies):
        run.outcome.end_stuck()
        return
    inputs, captured, region, _, _ = run.bodies[number]
    if region == NO_REGION or len(inputs) != 1:
        run.outcome.end_stuck()
        return
    values = [run.word(pointer, 2 + index) for index in range(len(captured))]
    run.enter(run.bodies[number], [frame.content(argument), *values], {region: (instance, False)}, reg)


def _return(run, frame, reg):
    run.leave(frame.content(reg))


def _begin(run, frame, name):
    frame.handles[name] = (run.begin_instance(), True)


def _end(run, frame, name):
    instance, owns = frame.handle(name)
    del frame.handles[name]
    if owns:
        run.end_instance(instance)


def _try(run, frame, kept, arms):
    frame.handlers.append((kept, arms))


def _untry(run, frame):
    if frame.handlers:
        frame.handlers.pop()
    else:
        run.outcome.end_stuck()


def _raise(run, frame, number, reg):
    run.throw(number, frame.content(reg))


def _print(run, frame, reg):
    run.outcome.outs.append(frame.content(reg))


def _operation(run, frame, op, operands):
    reg, *sources = operands
    first, second = frame.contents(sources)
    if divides_by_zero(op, second):
        run.throw(DIV, 0)
    else:
        # What is compared is True or False, and the operands of the others are of any size.
        frame.registers[reg] = wrap(int(compute(op, first, second)))


ACTIONS = {
    "set": _set, "copy": _copy, "cell": _cell, "closure": _closure, "array": _array, "load": _load, "store": _store,
    "item": _item, "put": _put, "switch": _switch, "branch": _branch, "jump": _jump, "call": _call, "apply": _apply,
    "return": _return, "begin": _begin, "end": _end, "try": _try, "untry": _untry, "raise": _raise, "print": _print,
}
