"""Random changes of region programs, after which they are mostly not safe, but of the right form."""

from tests.helpers import part_at, replace
from tests.region_moves import blocks_of, steps_at, where, with_steps

UNIT = ("unit", (), 0)


def changed(program, random):
    """A region program with one random change."""
    paths = list(blocks_of(program))
    for _ in range(20):
        change = random.choice([drop, copy, move, mode, mode, keep, touch, kind, region, begin])
        for path in random.sample(paths, min(len(paths), 10)):
            new = change(program, path, random)
            if new is not None:
                return new
    return program


def boundaries(program, path):
    steps = steps_at(program, path)
    return [index for index, step in enumerate(steps) if step[0] in ("new", "end")]


def drop(program, path, random):
    found = boundaries(program, path)
    if not found:
        return None
    steps = list(steps_at(program, path))
    del steps[random.choice(found)]
    return with_steps(program, path, steps)


def copy(program, path, random):
    """One more end step, for a region of the function."""
    steps = list(steps_at(program, path))
    steps.insert(random.randint(0, len(steps)), ("end", -1, UNIT, (), None, some_region(program, path, random), (), ()))
    return with_steps(program, path, steps)


def begin(program, path, random):
    steps = list(steps_at(program, path))
    steps.insert(random.randint(0, len(steps)), ("new", -1, UNIT, (), None, random.choice([3, 60]), (), ()))
    return with_steps(program, path, steps)


def move(program, path, random):
    found = boundaries(program, path)
    if not found:
        return None
    steps = list(steps_at(program, path))
    step = steps.pop(random.choice(found))
    steps.insert(random.randint(0, len(steps)), step)
    return with_steps(program, path, steps)


def some_region(program, path, random):
    """A region of the function in which a block lies."""
    regions = list(range(program[2][path[0]][1]))
    for block in blocks_of(program):
        if block[0] == path[0]:
            regions.extend(step[5] for step in steps_at(program, block) if step[0] == "new")
    return random.choice(regions or [0])


def pick(program, path, random, ops):
    steps = steps_at(program, path)
    found = [index for index, step in enumerate(steps) if ops is None or step[0] in ops]
    return random.choice(found) if found else None


def with_part(program, path, index, part, value):
    return replace(program, where(program, path) + (1, index, part), value)


def mode(program, path, random):
    index = pick(program, path, random, ("call",))
    if index is None:
        return None
    use = [list(pair) for pair in steps_at(program, path)[index][6]]
    if not use:
        return None
    pair = random.choice(use)
    if random.random() < 0.6:
        pair[1] = random.choice(["keep", "last", "none"])
    else:
        pair[0] = some_region(program, path, random)
    return with_part(program, path, index, 6, tuple(tuple(pair) for pair in use))


def keep(program, path, random):
    index = pick(program, path, random, ("handle",))
    if index is None:
        return None
    use = set(steps_at(program, path)[index][6])
    use ^= {some_region(program, path, random)}
    return with_part(program, path, index, 6, tuple(sorted(use)))


def touch(program, path, random):
    function = program[2][path[0]]
    if not function[1]:
        return None
    new = set(function[2]) ^ {random.randrange(function[1])}
    return replace(program, (2, path[0], 2), tuple(sorted(new)))


def kind(program, path, random):
    """Another region in one place of the kind of a step."""
    index = pick(program, path, random, None)
    if index is None:
        return None
    here = where(program, path) + (1, index, 2)
    places = [(2,)]
    step_kind = part_at(program, here)
    if step_kind[0] in ("int", "bool", "unit"):
        return None
    while random.random() < 0.5:
        at = places[-1][:-1]
        parts = part_at(step_kind, at)[1]
        if not isinstance(parts, tuple) or not parts:
            break
        number = random.randrange(len(parts))
        if parts[number][0] in ("int", "bool", "unit"):
            break
        places.append(at + (1, number, 2))
    return replace(program, here + places[-1], some_region(program, path, random))


def region(program, path, random):
    """Another region of a step that makes a cell, begins a region or gives one back."""
    index = pick(program, path, random, ("tuple", "fn", "ref", "array", "new", "end"))
    if index is None:
        return None
    new = some_region(program, path, random)
    program = with_part(program, path, index, 5, new)
    step = steps_at(program, path)[index]
    if step[2][0] != "unit" and random.random() < 0.5:
        program = with_part(program, path, index, 2, step[2][:2] + (new,))
    return program
