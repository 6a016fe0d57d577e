"""Code run in another way than the program does: a call is a call of Python, and an exception one of Python's."""

from tests.store_model import Model

HALF = 2 ** 31


def wrap(value):
    return (value + HALF) % (2 * HALF) - HALF


class Raised(Exception):
    """An exception of the language: its number and its payload."""


class Ended(Exception):
    """The end of the run by a fault."""


def quotient(one, other):
    found = abs(one) // abs(other)
    return found if (one < 0) == (other < 0) else -found


class Run:
    def __init__(self, code, fuel):
        self.exceptions, self.bodies, self.main = code
        self.fuel = min(max(fuel, 0), 200)
        self.ticks = 0
        self.outs = []
        self.memory = Model()
        self.events = []
        self.sizes = {}

    def stuck_unless(self, holds):
        if not holds:
            raise Ended(("stuck",))

    def spend(self, ticks):
        if self.ticks + ticks > self.fuel:
            self.ticks = self.fuel
            raise Ended(("fuel",))
        self.ticks += ticks

    def event(self, what, instance, words=0):
        self.events.append((what, instance, words, sum(self.sizes.values())))

    def address(self, pointer, offset=0):
        return pointer - 64 + offset

    def word(self, pointer, offset):
        return self.memory.read(self.address(pointer, offset))

    def touch(self, pointer):
        owner = self.memory.page_of(self.address(pointer))[0]
        self.event("touch", -1 if owner is None else owner)

    def cell(self, frame, r, g, words):
        self.stuck_unless(g in frame.handles)
        instance = frame.handles[g][0]
        self.stuck_unless(instance in self.sizes)
        place = self.memory.cell(instance, len(words))
        for at, word in enumerate(words):
            self.memory.write(place + at, word)
        self.sizes[instance] += len(words)
        self.event("cell", instance, len(words))
        frame.r[r] = place + 64

    def end(self, instance):
        self.stuck_unless(instance in self.sizes)
        self.memory.end(instance)
        words = self.sizes.pop(instance)
        self.event("end", instance, words)

    def call(self, number, values, handles):
        """Run a body and return what it returns."""
        inputs, captured, _, _, instructions = self.bodies[number]
        frame = Frame(handles)
        for register, value in list(zip(inputs + captured, values)):
            frame.r[register] = value
        at = 0
        while True:
            op, *rest = instructions[at]
            if op == "return":
                return frame[rest[0]]
            try:
                target = getattr(self, "do_" + op, self.arithmetic)(frame, *([op] if op in OPS else []), *rest)
                at = at + 1 if target is None else target
            except Raised as error:
                at = self.caught(frame, *error.args)

    def caught(self, frame, x, payload):
        """The place at which a frame goes on, if it handles an exception; otherwise it ends."""
        handlers = [(index, arm) for index, (_, arms) in enumerate(frame.open) for arm in arms if arm[0] == x]
        kept = frame.open[handlers[-1][0]][0] if handlers else ()
        mine = {name: instance for name, (instance, owns) in frame.handles.items() if owns}
        ending = {instance for name, instance in mine.items() if name not in kept}
        for instance in sorted(ending):
            self.end(instance)
        if not handlers:
            raise Raised(x, payload)
        for name, instance in mine.items():
            if instance in ending:
                del frame.handles[name]
        index, (_, register, target) = handlers[-1]
        frame.open = frame.open[:index]
        frame.r[register] = payload
        return target

    def do_set(self, frame, r, n):
        frame.r[r] = n

    def do_copy(self, frame, r, a):
        frame.r[r] = frame[a]

    def do_cell(self, frame, r, g, head, regs):
        self.cell(frame, r, g, list(head) + [frame[one] for one in regs])

    def do_closure(self, frame, r, g, number, regs):
        self.stuck_unless(g in frame.handles)
        self.cell(frame, r, g, [number, frame.handles[g][0]] + [frame[one] for one in regs])

    def do_array(self, frame, r, g, a, b):
        n = frame[a]
        if n < 0 or n > 12:
            raise Raised(2, n)
        self.spend(n)
        self.cell(frame, r, g, [n] + n * [frame[b]])

    def do_load(self, frame, r, a, i):
        self.touch(frame[a])
        frame.r[r] = self.word(frame[a], i)

    def do_store(self, frame, a, i, b):
        self.touch(frame[a])
        self.memory.write(self.address(frame[a], i), frame[b])

    def do_item(self, frame, r, a, b):
        self.check_index(frame, a, b)
        frame.r[r] = self.word(frame[a], 1 + frame[b])

    def do_put(self, frame, a, b, c):
        self.check_index(frame, a, b)
        self.memory.write(self.address(frame[a], 1 + frame[b]), frame[c])

    def check_index(self, frame, a, b):
        self.touch(frame[a])
        if frame[b] < 0 or frame[b] >= self.word(frame[a], 0):
            raise Raised(1, frame[b])

    def do_switch(self, frame, a, arms):
        value = frame[a]
        number = value
        if value < 0 or value >= 64:
            self.touch(value)
            number = self.word(value, 0)
        self.stuck_unless(0 <= number < len(arms))
        target, regs = arms[number]
        if value < 0 or value >= 64:
            for at, register in enumerate(regs):
                frame.r[register] = self.word(value, 1 + at)
        return target

    def do_branch(self, frame, a, t):
        return t if frame[a] == 0 else None

    def do_jump(self, frame, t):
        return t

    def do_call(self, frame, r, number, regs, regions):
        self.spend(1)
        self.stuck_unless(all(g in frame.handles for _, g, _ in regions))
        handles = {}
        for name, g, mode in regions:
            instance, owns = frame.handles[g]
            handles[name] = (instance, mode == "last" and owns)
        gone = {g for _, g, mode in regions if mode == "last"}
        frame.handles = {g: handle for g, handle in frame.handles.items() if g not in gone}
        frame.r[r] = self.call(number, [frame[one] for one in regs], handles)

    def do_apply(self, frame, r, a, b):
        self.spend(1)
        pointer = frame[a]
        self.touch(pointer)
        number = self.word(pointer, 0)
        self.stuck_unless(0 <= number < len(self.bodies))
        inputs, captured, region, _, _ = self.bodies[number]
        self.stuck_unless(len(inputs) == 1 and region >= 0)
        values = [frame[b]] + [self.word(pointer, 2 + at) for at in range(len(captured))]
        frame.r[r] = self.call(number, values, {region: (self.word(pointer, 1), False)})

    def do_begin(self, frame, g):
        instance = self.memory.begin()
        self.sizes[instance] = 0
        frame.handles[g] = (instance, True)
        self.event("new", instance)

    def do_end(self, frame, g):
        self.stuck_unless(g in frame.handles)
        instance, owns = frame.handles.pop(g)
        if owns:
            self.end(instance)

    def do_try(self, frame, kept, arms):
        frame.open = frame.open + [(kept, arms)]

    def do_untry(self, frame):
        self.stuck_unless(frame.open)
        frame.open = frame.open[:-1]

    def do_raise(self, frame, x, a):
        raise Raised(x, frame[a])

    def do_print(self, frame, a):
        self.outs.append(frame[a])

    def arithmetic(self, frame, op, r, a, b):
        one, other = frame[a], frame[b]
        if op in ("div", "rem") and other == 0:
            raise Raised(0, 0)
        if op in ("equal", "less"):
            frame.r[r] = 1 if (one == other if op == "equal" else one < other) else 0
            return
        results = {"add": lambda: one + other, "sub": lambda: one - other, "mul": lambda: one * other,
                   "div": lambda: quotient(one, other), "rem": lambda: one - other * quotient(one, other)}
        frame.r[r] = wrap(results[op]())


OPS = ("add", "sub", "mul", "div", "rem", "equal", "less")


class Frame:
    def __init__(self, handles):
        self.r = {}
        self.open = []
        self.handles = handles

    def __getitem__(self, register):
        return self.r.get(register, 0)


def run(code, arguments, fuel):
    state = Run(code, fuel)
    if len(arguments) != len(state.bodies[state.main][0]):
        return ((("stuck",), 0, (), 0), 0, 0, ())
    fault, answer = None, 0
    try:
        answer = state.call(state.main, [wrap(one) for one in arguments], {})
    except Ended as error:
        fault = error.args[0]
    except Raised as error:
        fault = ("raised", state.exceptions[error.args[0]], error.args[1])
    held = [event[3] for event in state.events]
    result = (fault, answer, tuple(state.outs), state.ticks)
    return (result, max(held, default=0), held[-1] if held else 0, tuple(state.events))
