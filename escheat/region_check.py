"""Checking region programs: the form, the scopes and kinds, and then what each function owns, touches and ends."""

from escheat.errors import FlatError, RegionError
from escheat.flat_check import check_flat
from escheat.kind_regions import regions_of
from escheat.region_form import erase_regions, has_region_shape
from escheat.step_rules import step_holds
from escheat.steps import JOINING_OPS
from escheat.touching import consumed_regions, kept_regions, named_regions, touched_regions
from escheat.walking import Walk


def check_regions(program):
    """Raise RegionError if a value is not a safe region program."""
    check_form(program)
    for number in range(len(program[2])):
        SafetyCheck(program, number).walk_function()


def check_scopes(program):
    """Raise RegionError for those reasons for which a region program cannot be run."""
    check_form(program)
    for number in range(len(program[2])):
        ScopeCheck(program, number).walk_function()


def check_shape(program):
    """Raise RegionError if a value does not have the form of a region program."""
    expect(has_region_shape(program), (), "shape")


def check_form(program):
    """Raise RegionError if a value does not have the form of a region program, or without its regions is wrong."""
    check_shape(program)
    try:
        check_flat(erase_regions(program))
    except FlatError:
        raise RegionError((), "flat")
    formals = [function[1] for function in program[2]]
    pending = [function[5] for function in program[2]]
    while pending:
        _, steps, _ = pending.pop()
        for op, _, _, _, info, _, use, blocks in steps:
            expect(op != "call" or len(use) == formals[info], (), "flat")
            pending.extend(blocks)


def expect(holds, path, reason):
    """Raise RegionError with a path and a reason if something does not hold."""
    if not holds:
        raise RegionError(path, reason)


class ScopeCheck(Walk):
    """The check of the reasons "scope" and "kind" in one function of a region program.

    The regions that are in scope lead to the path of the block in which they begin; formals to the empty path.
    """

    def __init__(self, program, number):
        super().__init__(program, number)
        self.regions = {formal: () for formal in range(program[2][number][1])}
        # The regions that have begun so far, in scope or not.
        self.taken = dict(self.regions)

    def walk_block(self, path, block, kinds, wanted):
        """Check a block, from whose end on the regions that begin in it are not in scope."""
        outer = self.regions
        self.regions = dict(outer)
        found = super().walk_block(path, block, kinds, wanted)
        self.regions = outer
        return found

    def at_step(self, path, step, kinds):
        """Check the regions and the kinds of a step."""
        op, _, _, ins, _, region, _, _ = step
        if op == "new":
            expect(region not in self.taken, path, "scope")
            self.taken[region] = path[:-1]
            self.regions[region] = path[:-1]
            return
        expect(self.are_in_scope(named_regions(step)), path, "scope")
        found = [kinds[variable] for variable in ins]
        expect(op == "end" or step_holds(step, found, self.known), path, "kind")

    def at_normal_arm(self, path, kind):
        """Check the regions of what the normal arm of a handle binds."""
        expect(self.are_in_scope(regions_of(kind)), path, "scope")

    def at_value(self, path, value, kinds, wanted):
        """Check the kind of the value of a block."""
        expect(wanted in (None, kinds[value]), path, "kind")

    def are_in_scope(self, regions):
        """Tell whether all of these regions are in scope."""
        return all([region in self.regions for region in regions])


class Holding:
    """What the steps at a place may touch and use up, as dicts with the regions as keys.

    - foreign: the region of the closure in whose block the place lies.
    - owned: the regions that the function or the closure's block owns; live: those of them that are live.
    - kept: the regions that the handle steps keep in whose bodies the place lies.
    """

    def __init__(self, foreign, owned, live, kept):
        self.foreign = foreign
        self.owned = dict(owned)
        self.live = dict(live)
        self.kept = kept

    def may_touch(self, region):
        """Tell whether a region may be touched, if it is live in case that it is owned."""
        return region in self.owned or region in self.foreign

    def can_be_used(self, region):
        """Tell whether a region that may be touched is live or not owned."""
        return region in self.live or region not in self.owned


class SafetyCheck(ScopeCheck):
    """The whole check of one function of a region program."""

    def __init__(self, program, number):
        super().__init__(program, number)
        touch = {formal: True for formal in program[2][number][2]}
        self.holding = Holding({}, touch, touch, {})
        # The live regions at the ends of the blocks of the step with a path.
        self.ends = {}

    def walk_function(self):
        """Check the body of the function."""
        super().walk_function()
        expect(not self.holding.live, (self.known.number,), "left")

    def at_step(self, path, step, kinds):
        """Check a step, but not its blocks."""
        super().at_step(path, step, kinds)
        holding = self.holding
        if step[0] == "new":
            holding.owned[step[5]] = True
            holding.live[step[5]] = True
            return
        touched = touched_regions(step, [kinds[variable] for variable in step[3]], self.known)
        consumed = consumed_regions(step)
        kept = kept_regions(step)
        expect(all([holding.may_touch(region) for region in touched]), path, "reach")
        expect(all([region in holding.owned for region in [*consumed, *kept]]), path, "reach")
        expect(all([holding.can_be_used(region) for region in touched]), path, "ended")
        expect(step[0] != "end" or step[5] in holding.live, path, "ended")
        expect(step[0] != "call" or self.modes_hold(step), path, "mode")
        expect(all([region in holding.live for region in kept]), path, "kept")
        expect(not any([region in holding.kept for region in consumed]), path, "kept")
        for region in consumed:
            del holding.live[region]

    def modes_hold(self, step):
        """Tell whether the modes of a call are right."""
        _, _, _, _, info, _, use, _ = step
        touch = self.known.functions[info][2]
        regions = [region for region, _ in use]
        for formal, (region, mode) in enumerate(use):
            if (formal in touch) != (mode != "none") or mode == "last" and regions.count(region) > 1:
                return False
        return True

    def walk_inner(self, path, step, index, kinds):
        """Check a block of a step, which begins with what is live then."""
        outer = self.holding
        self.holding = _holding_of_block(outer, step, index)
        found = super().walk_inner(path, step, index, kinds)
        live = self.holding.live
        if step[0] == "fn":
            expect(not live, path + (index,), "left")
        if step[0] == "handle" and index == 0:
            expect(sorted(live) == list(step[6]), path + (index,), "kept")
        self.holding = outer
        self.ends.setdefault(path, []).append(live)
        return found

    def at_value(self, path, value, kinds, wanted):
        """Check the kind of the value of a block, which must not lie in the block's own regions."""
        super().at_value(path, value, kinds, wanted)
        expect(not any([self.regions[region] == path for region in regions_of(kinds[value])]), path, "escapes")

    def behind_blocks(self, path, step):
        """Check that the same regions are live at the end of each block behind which the function goes on."""
        if step[0] in JOINING_OPS:
            ends = self.ends[path][1:] if step[0] == "handle" else self.ends[path]
            expect(all([live == ends[0] for live in ends]), path, "join")
            self.holding.live = ends[0]


def _holding_of_block(outer, step, index):
    """Return what may be touched and used up at the start of a block of a step."""
    if step[0] == "fn":
        return Holding({step[5]: True}, {}, {}, {})
    if step[0] != "handle":
        return Holding(outer.foreign, outer.owned, outer.live, outer.kept)
    kept = {region: True for region in step[6]}
    if index == 0:
        return Holding(outer.foreign, outer.owned, outer.live, {**outer.kept, **kept})
    return Holding(outer.foreign, outer.owned, kept, outer.kept)
