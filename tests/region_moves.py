"""Region programs with an end or a new step moved, and the regions that are live at each place."""

from tests.helpers import part_at, replace

BODY = 5


def where(program, path):
    """The place in the nested tuples of the step or the block with a path."""
    place = (2, path[0], BODY)
    for at, index in enumerate(path[1:]):
        place += (1, index) if at % 2 == 0 else (7, index)
    return place


def step_of(program, path):
    return part_at(program, where(program, path))


def blocks_of(program):
    """The paths of all blocks, each before the blocks in it."""
    def inside(path, block):
        yield path
        for index, step in enumerate(block[1]):
            for number, inner in enumerate(step[7]):
                yield from inside(path + (index, number), inner)

    for number, function in enumerate(program[2]):
        yield from inside((number,), function[BODY])


def steps_at(program, path):
    return part_at(program, where(program, path))[1]


def with_steps(program, path, steps):
    return replace(program, where(program, path) + (1,), tuple(steps))


def is_end(step, region=None):
    return step[0] == "end" and region in (None, step[5])


def without_ends(block, region):
    """A block without the end steps of a region at any depth, except in closures."""
    bind, steps, value = block
    kept = tuple(
        step if step[0] == "fn" else step[:7] + (tuple(without_ends(inner, region) for inner in step[7]),)
        for step in steps if not is_end(step, region)
    )
    return (bind, kept, value)


def leading_ends(block):
    """The regions that end at the start of a block."""
    regions = []
    for step in block[1]:
        if step[0] != "end":
            break
        regions.append(step[5])
    return regions


def end_of(region):
    return ("end", -1, ("unit", (), 0), (), None, region, (), ())


def earlier(program):
    """The programs of the point "Early", each with a word for the way in which a region ends earlier."""
    for path in list(blocks_of(program)):
        steps = steps_at(program, path)
        for index in range(1, len(steps)):
            if is_end(steps[index]) and not is_end(steps[index - 1]):
                moved = steps[:index - 1] + (steps[index], steps[index - 1]) + steps[index + 1:]
                yield "up", with_steps(program, path, moved)
        for index, step in enumerate(steps):
            if step[0] in ("if", "case"):
                yield from before_branches(program, path, index)
            if step[0] == "handle":
                yield from into_bodies(program, path, index)


def before_branches(program, path, index):
    steps = steps_at(program, path)
    step = steps[index]
    for region in sorted({region for block in step[7] for region in leading_ends(block)}):
        changed = step[:7] + (tuple(without_ends(block, region) for block in step[7]),)
        yield "out", with_steps(program, path, steps[:index] + (end_of(region), changed) + steps[index + 1:])


def into_bodies(program, path, index):
    steps = steps_at(program, path)
    step = steps[index]
    bind, inner, value = step[7][0]
    for region in sorted({region for block in step[7][1:] for region in leading_ends(block)}):
        arms = tuple(without_ends(block, region) for block in step[7][1:])
        kept = tuple(other for other in step[6] if other != region)
        changed = step[:6] + (kept, ((bind, inner + (end_of(region),), value),) + arms)
        yield "into", with_steps(program, path, steps[:index] + (changed,) + steps[index + 1:])


def later(program):
    """The programs of the point "Late"; None for a new step that no other step follows."""
    for path in list(blocks_of(program)):
        steps = steps_at(program, path)
        for index, step in enumerate(steps):
            if step[0] == "new":
                rest = [at for at in range(index + 1, len(steps)) if steps[at][0] not in ("new", "end")]
                if not rest:
                    yield None
                    continue
                behind = rest[0] + 1
                yield with_steps(program, path, steps[:index] + steps[index + 1:behind] + (step,) + steps[behind:])


def handed_on(program):
    """The programs of the point "Handed on"."""
    for path in list(blocks_of(program)):
        steps = steps_at(program, path)
        for index, step in enumerate(steps):
            if step[0] == "call":
                row = leading_ends(((), steps[index + 1:], None))
                for at, (region, mode) in enumerate(step[6]):
                    if mode == "keep" and region in row:
                        changed = replace(step, (6, at), (region, "last"))
                        behind = list(steps[index + 1:])
                        behind.remove(end_of(region))
                        yield with_steps(program, path, [*steps[:index], changed, *behind])


def lives(program):
    """The regions that are live at each place of an accepted region program, as a dict from paths to sets."""
    found = {}

    def consume(step):
        if step[0] == "end":
            return {step[5]}
        return {region for region, mode in step[6] if mode == "last"} if step[0] == "call" else set()

    def inside(path, block, live):
        found[path] = live
        last = path
        for index, step in enumerate(block[1]):
            place = path + (index,)
            if step[0] in ("if", "case"):
                live = [inside(place + (at,), inner, live) for at, inner in enumerate(step[7])][0]
            elif step[0] == "fn":
                inside(place + (0,), step[7][0], frozenset())
            elif step[0] == "handle":
                inside(place + (0,), step[7][0], live)
                kept = frozenset(step[6])
                live = [inside(place + (at + 1,), inner, kept) for at, inner in enumerate(step[7][1:])][0]
            else:
                live = live - consume(step) | ({step[5]} if step[0] == "new" else set())
            found[place] = live
            if step[0] == "end":
                # The places before a row of end steps are behind it.
                for before in range(index, -1, -1):
                    found[path + (before,)] = live
                    if block[1][before][0] != "end":
                        break
                else:
                    found[path] = live
            last = place
        return live

    for number, function in enumerate(program[2]):
        inside((number,), function[BODY], frozenset(function[2]))
    return found
