"""Region programs checked and run in another way than the program does: slowly, and close to the document's words.

The programs must have the right form and must be right flat programs without their regions.
"""

INT = ("int", (), 0)
BOOL = ("bool", (), 0)
UNIT = ("unit", (), 0)
CELLS = ("tuple", "fn", "ref", "array")
READS = ("get", "deref", "set", "at", "put", "len", "apply")


def regions_in(kind):
    head, what, region = kind
    if head in ("int", "bool", "unit"):
        return set()
    return {region} | (set() if head == "data" else {one for part in what for one in regions_in(part)})


def renamed(kind, change):
    head, what, region = kind
    if head in ("int", "bool", "unit"):
        return kind
    what = what if head == "data" else tuple(renamed(part, change) for part in what)
    return (head, what, change(region))


def makes(step):
    return step[0] in CELLS or step[0] == "make" and bool(step[3])


class Place:
    """What is known at a step: where it lies and what is around it."""

    def __init__(self, *, scope, live, owned, closure, kept):
        self.scope = dict(scope)
        self.live = set(live)
        self.owned = set(owned)
        self.closure = closure
        self.kept = set(kept)

    def copy(self, **changes):
        values = {"scope": self.scope, "live": self.live, "owned": self.owned, "closure": self.closure,
                  "kept": self.kept}
        values.update(changes)
        return Place(**values)


class Found(Exception):
    """The first error: a path and a reason."""


class Check:
    def __init__(self, program, number, *, only):
        self.datas, _, self.functions = program
        self.number = number
        self.only = only
        self.function = self.functions[number]
        self.kinds = dict(enumerate(self.function[3]))
        self.begun = set()

    def fail(self, wrong, path, reason):
        if wrong and (self.only is None or reason in self.only):
            raise Found(path, reason)

    def function_holds(self):
        _, formals, touch, _, result, body = self.function
        place = Place(scope={formal: None for formal in range(formals)}, live=touch, owned=touch, closure=None, kept=())
        live = self.block((self.number,), body, place, result)
        self.fail(live, (self.number,), "left")

    def block(self, path, block, place, wanted):
        place = place.copy()
        for index, step in enumerate(block[1]):
            self.step(path + (index,), step, place)
            if step[0] not in ("new", "end"):
                self.kinds[step[1]] = step[2]
        kind = self.kinds[block[2]]
        self.fail(wanted is not None and kind != wanted, path, "kind")
        self.fail(any(place.scope.get(region) == path for region in regions_in(kind)), path, "escapes")
        return place.live

    def fields(self, kind):
        return [tuple(renamed(field, lambda _: kind[2]) for field in fields) for _, fields in self.datas[kind[1]][1]]

    def touched(self, step):
        op, ins = step[0], step[3]
        if makes(step):
            return {step[5]}
        if op in READS or op == "case" and any(fields for _, fields in self.datas[self.kinds[ins[0]][1]][1]):
            return {self.kinds[ins[0]][2]}
        if op == "call":
            return {step[6][formal][0] for formal in self.functions[step[4]][2]}
        return set()

    def step(self, path, step, place):
        op, out, kind, ins, info, region, use, blocks = step
        if op == "new":
            self.fail(region in self.begun or region < self.function[1], path, "scope")
            self.begun.add(region)
            place.scope[region] = path[:-1]
            place.live.add(region)
            place.owned.add(region)
            return
        named = regions_in(kind) | ({region} if makes(step) or op == "end" else set())
        if op == "call":
            named |= {one for one, _ in use}
        if op == "handle":
            named |= set(use)
        if op == "case":
            named |= {one for fields in self.fields(self.kinds[ins[0]]) for part in fields for one in regions_in(part)}
        self.fail(not named <= set(place.scope), path, "scope")
        self.fail(op != "end" and not self.kinds_hold(step), path, "kind")
        touched = self.touched(step)
        lasts = {one for one, mode in use if mode == "last"} if op == "call" else set()
        gone = lasts | ({region} if op == "end" else set())
        kept = set(use) if op == "handle" else set()
        self.fail(not touched <= place.owned | {place.closure}, path, "reach")
        self.fail(not gone | kept <= place.owned, path, "reach")
        self.fail(touched & place.owned - place.live, path, "ended")
        self.fail(op == "end" and region not in place.live, path, "ended")
        self.fail(op == "call" and not self.modes_hold(step), path, "mode")
        self.fail(not kept <= place.live or gone & place.kept, path, "kept")
        place.live -= gone
        self.blocks(path, step, place)

    def modes_hold(self, step):
        touch = self.functions[step[4]][2]
        for formal, (region, mode) in enumerate(step[6]):
            if mode == "none" and formal in touch or mode != "none" and formal not in touch:
                return False
            others = [one for other, (one, _) in enumerate(step[6]) if other != formal]
            if mode == "last" and region in others:
                return False
        return True

    def blocks(self, path, step, place):
        op, _, kind, ins, info, region, use, blocks = step
        if op == "fn":
            self.kinds[blocks[0][0][0]] = kind[1][0]
            inner = place.copy(live=(), owned=(), closure=region, kept=())
            self.fail(self.block(path + (0,), blocks[0], inner, kind[1][1]), path + (0,), "left")
        if op in ("if", "case"):
            ends = []
            for index, block in enumerate(blocks):
                if op == "case":
                    self.kinds.update(zip(block[0], self.fields(self.kinds[ins[0]])[index]))
                ends.append(self.block(path + (index,), block, place, kind))
            self.join(path, ends, place)
        if op == "handle":
            live = self.block(path + (0,), blocks[0], place.copy(kept=place.kept | set(use)), None)
            self.fail(live != set(use), path + (0,), "kept")
            found = self.kinds[blocks[0][2]]
            self.fail(not regions_in(found) <= set(place.scope), path, "scope")
            self.kinds.update(zip(blocks[1][0], (found,)))
            self.kinds.update((block[0][0], INT) for block in blocks[2:])
            arms = place.copy(live=use)
            self.join(path, [self.block(path + (1 + at,), block, arms, kind) for at, block in enumerate(blocks[1:])],
                      place)

    def join(self, path, ends, place):
        self.fail(any(end != ends[0] for end in ends), path, "join")
        place.live = set(ends[0])

    def kinds_hold(self, step):
        op, _, kind, ins, info, region, use, _ = step
        kinds = [self.kinds[variable] for variable in ins]
        if op == "call":
            _, _, _, wanted, result, _ = self.functions[info]
            at = [renamed(each, lambda formal: use[formal][0]) for each in [*wanted, result]]
            return [*kinds, kind] == at
        if op == "make":
            return list(self.fields(kind)[info]) == kinds and (not ins or kind[2] == region)
        return kind == {
            "tuple": lambda: ("tuple", tuple(kinds), region), "ref": lambda: ("ref", tuple(kinds), region),
            "array": lambda: ("array", (kinds[-1],), region), "get": lambda: kinds[0][1][info],
            "fn": lambda: ("fn", kind[1], region), "apply": lambda: kinds[0][1][1],
            "deref": lambda: kinds[0][1][0], "at": lambda: kinds[0][1][0],
        }.get(op, lambda: kind)() and {
            "apply": lambda: kinds[0][1][0] == kinds[1], "set": lambda: kinds[0][1][0] == kinds[1],
            "put": lambda: kinds[0][1][0] == kinds[2],
        }.get(op, lambda: True)()


def check(program, *, only=None):
    """The path and the reason of the first error, or None; only some reasons if they are given."""
    try:
        for number in range(len(program[2])):
            Check(program, number, only=only).function_holds()
    except Found as found:
        return found.args
    return None


class Raised(Exception):
    """An exception of the language."""


class Fault(Exception):
    """The end of a run."""


class Instance:
    def __init__(self, number):
        self.number = number
        self.words = 0
        self.over = False


class Value:
    """A value with a cell."""

    def __init__(self, instance, parts, more=None):
        self.instance = instance
        self.parts = parts
        self.more = more


def wrap(number):
    return (number + 2 ** 31) % 2 ** 32 - 2 ** 31


class Run:
    """A run by Python's own calls: only for programs that do not call deeply."""

    def __init__(self, program, fuel):
        _, self.exceptions, self.functions = program
        self.fuel = min(max(fuel, 0), 200)
        self.ticks = 0
        self.outs = []
        self.instances = []
        self.events = []

    def held(self):
        return sum(instance.words for instance in self.instances if not instance.over)

    def event(self, what, instance, words):
        self.events.append((what, instance.number, words, self.held()))

    def spend(self, ticks):
        if self.ticks + ticks > self.fuel:
            self.ticks = self.fuel
            raise Fault("fuel")
        self.ticks += ticks

    def main(self, arguments):
        main = self.functions[-1]
        if len(arguments) != len(main[3]):
            return ((("stuck",), 0, (), 0), 0, 0, ())
        fault, answer = None, 0
        try:
            answer = self.frame(main[5], {}, dict(enumerate(map(wrap, arguments))))
        except Fault as end:
            fault = end.args
        except Raised as raised:
            number, payload = raised.args
            fault = ("raised", self.exceptions[number], payload)
        events = tuple(self.events)
        peak = max([event[3] for event in events], default=0)
        left = events[-1][3] if events else 0
        return ((fault, answer, tuple(self.outs), self.ticks), peak, left, events)

    def frame(self, block, handles, variables):
        try:
            return self.block(block, handles, variables)
        except Raised:
            self.give_back(handles, ())
            raise

    def give_back(self, handles, kept):
        owned = [(handle[0].number, region) for region, handle in handles.items() if handle[1] and region not in kept]
        for number, region in sorted(owned):
            self.finish(self.instances[number])
            del handles[region]

    def finish(self, instance):
        assert not instance.over
        instance.over = True
        self.event("end", instance, instance.words)

    def block(self, block, handles, variables):
        for step in block[1]:
            value = self.step(step, handles, variables)
            if step[0] not in ("new", "end"):
                variables[step[1]] = value
        return variables[block[2]]

    def cell(self, handles, region, words, parts, more=None):
        if region not in handles or handles[region][0].over:
            raise Fault("touch")
        instance = handles[region][0]
        instance.words += words
        self.event("cell", instance, words)
        return Value(instance, parts, more)

    def touch(self, value):
        if value.instance.over:
            raise Fault("touch")
        self.event("touch", value.instance, 0)

    def step(self, step, handles, variables):
        op, _, _, ins, info, region, use, blocks = step
        values = [variables[variable] for variable in ins]
        if op in ("int", "bool", "unit"):
            return info
        if op == "new":
            self.instances.append(Instance(len(self.instances)))
            handles[region] = (self.instances[-1], True)
            return self.event("new", self.instances[-1], 0)
        if op == "end":
            if region in handles:
                instance, owned = handles.pop(region)
                if owned:
                    self.finish(instance)
            return None
        if op == "print":
            return self.outs.append(values[0])
        if op == "raise":
            raise Raised(info, values[0])
        if op == "if":
            return self.block(blocks[0 if values[0] else 1], handles, variables)
        if op == "handle":
            return self.handle(step, handles, variables)
        if op == "call":
            return self.call(step, handles, values)
        if op in ("add", "sub", "mul", "div", "rem", "equal", "less"):
            return self.operate(op, *values)
        if op in ("make", "tuple", "ref", "fn", "array"):
            return self.make(step, handles, variables, values)
        return self.read(step, handles, variables, values)

    def operate(self, op, first, second):
        if op in ("div", "rem"):
            if second == 0:
                raise Raised(0, 0)
            quotient = abs(first) // abs(second) * (1 if (first < 0) == (second < 0) else -1)
            return wrap(quotient if op == "div" else first - quotient * second)
        if op in ("equal", "less"):
            return first == second if op == "equal" else first < second
        return wrap({"add": first + second, "sub": first - second, "mul": first * second}[op])

    def make(self, step, handles, variables, values):
        op, _, _, _, info, region, _, blocks = step
        if op == "make":
            return self.cell(handles, region, 1 + len(values), values, info) if values else Value(None, [], info)
        if op == "fn":
            caught = free(blocks[0])
            parts = {variable: variables[variable] for variable in caught}
            return self.cell(handles, region, 2 + len(caught), parts, step)
        if op == "array":
            if not 0 <= values[0] <= 12:
                raise Raised(2, values[0])
            self.spend(values[0])
            return self.cell(handles, region, 1 + values[0], [values[1]] * values[0])
        return self.cell(handles, region, len(values), values)

    def read(self, step, handles, variables, values):
        op, info, blocks = step[0], step[4], step[7]
        if op == "apply":
            self.spend(1)
            self.touch(values[0])
            bind, _, _ = blocks = values[0].more[7][0]
            inner = {**values[0].parts, bind[0]: values[1]}
            return self.frame(blocks, {values[0].more[5]: (values[0].instance, False)}, inner)
        if op != "case" or values[0].parts:
            self.touch(values[0])
        if op == "case":
            variables.update(zip(blocks[values[0].more][0], values[0].parts))
            return self.block(blocks[values[0].more], handles, variables)
        parts = values[0].parts
        if op == "get":
            return parts[info]
        if op == "len":
            return len(parts)
        if op in ("deref", "set"):
            index = 0
        else:
            index = values[1]
            if not 0 <= index < len(parts):
                raise Raised(1, index)
        if op in ("set", "put"):
            parts[index] = values[-1]
            return None
        return parts[index]

    def handle(self, step, handles, variables):
        _, _, _, _, info, _, kept, blocks = step
        try:
            value = self.block(blocks[0], handles, variables)
        except Raised as raised:
            number, payload = raised.args
            if number not in info:
                raise
            self.give_back(handles, kept)
            arm = blocks[2 + info.index(number)]
            variables[arm[0][0]] = payload
        else:
            arm = blocks[1]
            variables[arm[0][0]] = value
        return self.block(arm, handles, variables)

    def call(self, step, handles, values):
        self.spend(1)
        function = self.functions[step[4]]
        inner = {}
        for formal in function[2]:
            region, mode = step[6][formal]
            if region in handles:
                instance, owned = handles[region]
                inner[formal] = (instance, owned and mode == "last")
                if inner[formal][1]:
                    del handles[region]
        return self.frame(function[5], inner, dict(enumerate(values)))


def free(block):
    """The variables that a block uses and does not bind."""
    used, bound = {block[2]}, set(block[0])
    for step in block[1]:
        used |= set(step[3])
        bound.add(step[1])
        for inner in step[7]:
            used |= set(free(inner))
            bound |= set(inner[0])
    return sorted(used - bound - inner_bound(block))


def inner_bound(block):
    return set(block[0]).union(*[{step[1]}.union(*map(inner_bound, step[7])) for step in block[1]])


def run(program, arguments, fuel):
    """The metered run of a program."""
    return Run(program, fuel).main(arguments)
