"""Places of a program: the steps that can follow them, and those that give the result of a function.

A path leads from a function's number to the index of a step, of one of its blocks, of a step in it, and so on. So
the path of a step has an even length, and that of a block an odd one.
"""

from escheat.names import is_natural
from escheat.steps import JOINING_OPS


def is_place(program, path):
    """Tell whether a value is the path of a block or of a step of a program."""
    if not isinstance(path, tuple) or not path:
        return False
    functions = program[2]
    if not is_natural(path[0]) or path[0] >= len(functions):
        return False
    parts = functions[path[0]][5][1]
    for at, index in enumerate(path[1:]):
        if not is_natural(index) or index >= len(parts):
            return False
        # The blocks of a step, or the steps of a block.
        parts = parts[index][7 if at % 2 == 0 else 1]
    return True


def can_follow(program, place, path):
    """Tell whether a step of the function in which a place lies can follow the place."""
    closures = [inner for inner in _outer_blocks(path) if _op_around(program, inner) == "fn"]
    if not all([place[:len(closure)] == closure for closure in closures]):
        return False
    shared = 0
    while shared < min(len(place), len(path)) and place[shared] == path[shared]:
        shared += 1
    if shared == len(place):
        return shared % 2 == 1
    if shared == len(path):
        return False
    if shared % 2 == 1:
        inside = place[:shared + 2]
        return path[shared] > place[shared] and (len(inside) < shared + 2 or _op_around(program, inside) != "fn")
    return place[shared] == 0 and _op_around(program, place[:shared + 1]) == "handle"


def _outer_blocks(path):
    """Return the list of the paths of the blocks of steps in which a step lies."""
    return [path[:length] for length in range(3, len(path), 2)]


def _op_around(program, path):
    """Return the op of the step to which the block with a path belongs."""
    steps = program[2][path[0]][5][1]
    for at, index in enumerate(path[1:-2]):
        steps = steps[index][7 if at % 2 == 0 else 1]
    return steps[path[-2]][0]


def final_places(path, body):
    """Return two dicts: the paths of the final steps of a function, and those of the blocks that have its result."""
    finals = {}
    ends = {}
    pending = [(path, body)]
    while pending:
        path, (_, steps, value) = pending.pop()
        if not steps or steps[-1][0] not in JOINING_OPS or steps[-1][1] != value:
            ends[path] = True
            continue
        place = path + (len(steps) - 1,)
        finals[place] = True
        # Behind the body of a handle the normal arm is still to come.
        first = 1 if steps[-1][0] == "handle" else 0
        blocks = list(enumerate(steps[-1][7]))
        pending.extend([(place + (index,), block) for index, block in blocks[first:]])
    return finals, ends
