"""Which regions a step of a region program names, touches and uses up."""

from escheat.kind_regions import regions_of
from escheat.step_rules import field_kinds_at
from escheat.steps import READING_OPS, makes_cell
from escheat.walking import Walk


def named_regions(step):
    """Return the list of the regions that must be in scope at a step.

    The variables that the blocks of a case bind have the region of its in, which is in scope where the in is.
    """
    op, _, kind, _, _, region, use, _ = step
    regions = regions_of(kind)
    if makes_cell(step) or op == "end":
        regions.append(region)
    if op == "call":
        regions.extend([each for each, _ in use])
    if op == "handle":
        regions.extend(use)
    return regions


def touched_regions(step, kinds, known):
    """Return the list of the regions that a step whose ins have these kinds touches by itself."""
    op, _, _, _, info, region, use, _ = step
    if makes_cell(step):
        return [region]
    if op == "call":
        return [use[formal][0] for formal in known.functions[info][2]]
    if op in READING_OPS or op == "case" and any(field_kinds_at(kinds[0], known.datas)):
        return [kinds[0][2]]
    return []


def consumed_regions(step):
    """Return the list of the regions that are live before a step and, because of the step itself, not behind it."""
    op, _, _, _, _, region, use, _ = step
    if op == "end":
        return [region]
    return [each for each, mode in use if mode == "last"] if op == "call" else []


def kept_regions(step):
    """Return the tuple of the regions that a step keeps."""
    return step[6] if step[0] == "handle" else ()


def touches_of_function(program, number):
    """Return a dict from the path of each step of a function to the list of the regions that it touches by itself."""
    visit = TouchWalk(program, number)
    visit.walk_function()
    return visit.touches


class TouchWalk(Walk):
    """A visit of a function that notes what each step touches by itself."""

    def __init__(self, program, number):
        super().__init__(program, number)
        self.touches = {}

    def at_step(self, path, step, kinds):
        """Note what a step touches."""
        self.touches[path] = touched_regions(step, [kinds[variable] for variable in step[3]], self.known)
