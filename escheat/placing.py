"""Placing the new and end steps of a function whose regions are known.

The blocks are treated from their ends: a region is needed at a place if a step that can follow it touches the
region. It ends where it is needed no longer, so that exactly the regions that are needed at a place are live there.
"""

from escheat.kind_forms import UNIT
from escheat.touching import touches_of_function


def coarse_function(function, number, main):
    """Return a flat function with one region for all cells; main is the number of the last function."""
    name, _, _, kinds, result, (bind, steps, value) = function
    steps = [*_coarse_steps(steps, main, (0,)), boundary("end", 0)]
    if number == main:
        return (name, 0, (), kinds, result, (bind, (boundary("new", 0), *steps), value))
    return (name, 1, (0,), kinds, result, (bind, tuple(steps), value))


def boundary(op, region):
    """Return the new step or the end step of a region."""
    return (op, -1, UNIT, (), None, region, (), ())


def _coarse_steps(steps, main, kept):
    """Return the tuple of these steps of a flat program with one region, of which the handle steps keep some."""
    return tuple([_coarse_step(step, main, kept) for step in steps])


def _coarse_step(step, main, kept):
    op, out, kind, ins, info, region, use, blocks = step
    if op == "call" and info != main:
        use = ((0, "keep"),)
    if op == "handle":
        use = kept
    inner = () if op == "fn" else kept
    blocks = tuple([(bind, _coarse_steps(steps, main, inner), value) for bind, steps, value in blocks])
    return (op, out, kind, ins, info, region, use, blocks)


class Placing:
    """The placing of the new and end steps of one function.

    - touches: the regions that the steps with these paths touch by themselves.
    - starts: the regions that begin directly before the steps with these paths.
    - homes: the paths of the blocks in which the regions begin; formals begin in the body.
    - root: the path of the function's body or of the closure's block that is treated.
    """

    def __init__(self, program, number, starts):
        function = program[2][number]
        self.function = function
        self.touches = touches_of_function(program, number)
        self.starts = starts
        self.root = (number,)
        self.homes = {formal: self.root for formal in range(function[1])}
        for path in starts:
            for region in starts[path]:
                self.homes[region] = path[:-1]

    def placed(self):
        """Return the function with its new and end steps."""
        name, formals, touch, kinds, result, body = self.function
        return (name, formals, touch, kinds, result, self.place_block(self.root, body, touch, ()))

    def place_block(self, path, block, live, after):
        """Return a block, at whose start some regions are live, and others are needed behind it."""
        bind, steps, value = block
        needed = {region: True for region in after}
        placed = []
        for index in reversed(range(len(steps))):
            place = path + (index,)
            rows = self.place_step(place, steps[index], tuple(sorted(needed)))
            for region in self.inside(place, steps[index]):
                needed[region] = True
            placed = self.starting(place, needed) + rows + placed
            for region in self.starts.get(place, ()):
                needed.pop(region, None)
        ends = [boundary("end", region) for region in live if region not in needed]
        return (bind, tuple(ends + placed), value)

    def starting(self, path, needed):
        """Return the list of the steps that begin regions before a step, and end again those that are not needed."""
        rows = []
        for region in self.starts.get(path, ()):
            rows.append(boundary("new", region))
            if region not in needed:
                rows.append(boundary("end", region))
        return rows

    def place_step(self, path, step, after):
        """Return the list of a step and the end steps behind it, if these regions are needed behind them."""
        op = step[0]
        if op in ("if", "case"):
            live = _united(after, self.inside(path, step))
            indexes = range(len(step[7]))
            return [_with_blocks(step, [self.place_inner(path, step, index, live, after) for index in indexes])]
        if op == "handle":
            return [self.place_handle(path, step, after)]
        if op == "fn":
            step = self.place_closure(path, step)
        over = [region for region in self.inside(path, step) if region not in after]
        if op == "call":
            step = _handing_over(step, over)
            over = [region for region in over if (region, "last") not in step[6]]
        return [step] + [boundary("end", region) for region in over]

    def place_inner(self, path, step, index, live, after):
        """Return a block of a step, at whose start some regions are live, and others are needed behind it."""
        return self.place_block(path + (index,), step[7][index], live, after)

    def place_handle(self, path, step, after):
        """Return a handle step, which keeps what is needed in its arms or behind it."""
        blocks = step[7]
        arms = [region for index in range(1, len(blocks)) for region in self.inside_block(path, step, index)]
        kept = _united(after, arms)
        # What is live at the start of the body is needed in it or kept: nothing ends there.
        body = self.place_inner(path, step, 0, (), kept)
        placed = [self.place_inner(path, step, index, kept, after) for index in range(1, len(blocks))]
        return _with_blocks(step[:6] + (kept, blocks), [body, *placed])

    def place_closure(self, path, step):
        """Return an fn step, whose block owns what begins in it, and nothing else."""
        outer = self.root
        self.root = path + (0,)
        step = _with_blocks(step, [self.place_inner(path, step, 0, (), ())])
        self.root = outer
        return step

    def inside(self, path, step):
        """Return the ascending tuple of the owned regions that a step touches, or those in its blocks.

        Those that begin in the blocks are not among them.
        """
        regions = self.touched(path, step)
        return tuple([region for region in sorted(set(regions)) if self.is_owned(region, path)])

    def inside_block(self, path, step, index):
        """Return the same for the steps in one block of a step."""
        regions = self.touched_in_block(path + (index,), step[7][index])
        return tuple([region for region in sorted(set(regions)) if self.is_owned(region, path)])

    def is_owned(self, region, path):
        """Tell whether what is treated owns a region that begins outside of the blocks of the step with a path."""
        home = self.homes[region]
        return home[:len(self.root)] == self.root and path[:len(home)] == home

    def touched(self, path, step):
        """Return the list of the regions that a step touches, or those in its blocks; closures are left out."""
        regions = list(self.touches[path])
        if step[0] != "fn":
            for index, block in enumerate(step[7]):
                regions.extend(self.touched_in_block(path + (index,), block))
        return regions

    def touched_in_block(self, path, block):
        """Return the list of the regions that the steps of a block touch."""
        regions = []
        for index, step in enumerate(block[1]):
            regions.extend(self.touched(path + (index,), step))
        return regions


def _united(first, second):
    """Return the ascending tuple of the regions of two tuples or lists."""
    return tuple(sorted(set(first) | set(second)))


def _with_blocks(step, blocks):
    return step[:7] + (tuple(blocks),)


def _handing_over(step, over):
    """Return a call that takes over what is not needed any more, except for what it gets in two places."""
    regions = [region for region, _ in step[6]]
    use = []
    for region, mode in step[6]:
        # What is over is touched, so its only pair has the mode "keep" so far.
        use.append((region, "last" if region in over and regions.count(region) == 1 else mode))
    return step[:6] + (tuple(use), step[7])
