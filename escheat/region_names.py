"""Names for the regions of a function, and which of them must be the same region.

Each place of a kind gets a name of its own. Where values pass from one place to another, the names there are made
equal. Names only become equal, so what is left separate is separate in every way to choose the regions.
"""

from escheat.kind_regions import regions_of, with_regions
from escheat.step_rules import equal_kinds
from escheat.steps import makes_cell
from escheat.touching import named_regions, touched_regions
from escheat.walking import Walk


class Names:
    """Names of regions, which are numbers from 0. The least of the names that are equal leads them."""

    def __init__(self):
        self.leaders = []

    def fresh(self):
        """Return a new name."""
        self.leaders.append(len(self.leaders))
        return len(self.leaders) - 1

    def leader(self, name):
        """Return the least name that is equal to a name."""
        leaders = self.leaders
        while leaders[name] != name:
            # Halves the way for the next time.
            leaders[name] = leaders[leaders[name]]
            name = leaders[name]
        return name

    def make_equal(self, one, other):
        """Make two names equal, and tell whether they were not."""
        first, second = self.leader(one), self.leader(other)
        self.leaders[max(first, second)] = min(first, second)
        return first != second


def named_function(function, names, formals):
    """Return a flat function with a name of its own at each place of a kind, and at each formal of each call.

    The numbers of the formals of the functions above it are given. The function's own formals are, for now, the
    places of the kinds of its parameters and its result, whose names come first.
    """
    name, _, _, kinds, result, body = function
    kinds = tuple([_named_kind(kind, names) for kind in kinds])
    result = _named_kind(result, names)
    places = len(names.leaders)
    return (name, places, (), kinds, result, _named_block(body, names, [*formals, places]))


def _named_kind(kind, names):
    return with_regions(kind, lambda region: names.fresh())


def _named_block(block, names, formals):
    bind, steps, value = block
    return (bind, tuple([_named_step(step, names, formals) for step in steps]), value)


def _named_step(step, names, formals):
    op, out, kind, ins, info, _, use, blocks = step
    kind = _named_kind(kind, names)
    region = kind[2] if makes_cell(step) else 0
    if op == "call":
        use = tuple([(names.fresh(), "keep") for _ in range(formals[info])])
    return (op, out, kind, ins, info, region, use, tuple([_named_block(block, names, formals) for block in blocks]))


class Naming(Walk):
    """The visit of a function with names, which makes those names equal that must be the same region.

    - mentions: the pairs of a name and the path of a step at which the region must be in scope.
    - touches: the pairs of a name and the path of the block of the innermost closure in which a step touches it;
      the path is empty outside of closures. What the calls of the function itself touch is not among them.
    - own_calls: for these calls, the pairs of the names for the formals and the same path.
    - closures: the names of the regions of the closures, by the paths of their blocks.
    """

    def __init__(self, program, number, names):
        super().__init__(program, number)
        self.names = names
        self.places = program[2][number][1]
        self.mentions = []
        self.touches = []
        self.own_calls = []
        self.closures = {}
        self.closure = ()

    def settle(self):
        """Make names equal until no two more must be equal."""
        self.walk_function()
        while self.settle_own_calls() or self.settle_closures():
            pass

    def make_equal(self, one, other):
        """Make the names in two kinds equal that differ in their regions only."""
        for first, second in zip(regions_of(one), regions_of(other)):
            self.names.make_equal(first, second)

    def at_step(self, path, step, kinds):
        """Make the names at a step equal, and remember which it mentions and touches."""
        found = [kinds[variable] for variable in step[3]]
        for one, other in equal_kinds(step, found, self.known):
            self.make_equal(one, other)
        self.mentions.extend([(name, path) for name in named_regions(step)])
        self.touches.extend([(name, self.closure) for name in touched_regions(step, found, self.known)])
        if step[0] == "call" and step[4] == self.known.number:
            self.own_calls.append(([name for name, _ in step[6]], self.closure))

    def at_normal_arm(self, path, kind):
        """Remember that a handle mentions what its normal arm binds: both the body and the arm name it."""
        self.mentions.extend([(name, path) for name in regions_of(kind)])

    def at_value(self, path, value, kinds, wanted):
        """Make the names in the value of a block equal to those in the kind that it must have."""
        if wanted is not None:
            self.make_equal(kinds[value], wanted)

    def walk_inner(self, path, step, index, kinds):
        """Visit a block of a step, which may be the block of a closure."""
        outer = self.closure
        if step[0] == "fn":
            self.closure = path + (index,)
            self.closures[self.closure] = step[5]
        found = super().walk_inner(path, step, index, kinds)
        self.closure = outer
        return found

    def settle_own_calls(self):
        """Make names equal at the calls of the function itself, where two of its formals are; tell whether any were."""
        changed = False
        for use, _ in self.own_calls:
            for place in range(self.places):
                if self.names.make_equal(use[place], use[self.names.leader(place)]):
                    changed = True
        return changed

    def settle_closures(self):
        """Give the regions that a closure touches and does not begin the name of its own; tell whether any changed."""
        homes = self.home_blocks()
        changed = False
        for name, closure in self.all_touches():
            leader = self.names.leader(name)
            # A home may be out of date in this round. It was further in then, so the next round sees what is left.
            begins_inside = not self.is_formal(leader) and homes[leader][:len(closure)] == closure
            if closure and not begins_inside and self.names.make_equal(leader, self.closures[closure]):
                changed = True
        return changed

    def is_formal(self, name):
        """Tell whether a name is that of a formal."""
        return self.names.leader(name) < self.places

    def all_touches(self):
        """Return the list of the touches, with those of the calls of the function itself."""
        touched = self.outer_touches()
        touches = list(self.touches)
        for use, closure in self.own_calls:
            touches.extend([(use[place], closure) for place in self.touched_places(touched)])
        return touches

    def outer_touches(self):
        """Return a dict with the leaders of the names that are touched outside of closures."""
        touched = {self.names.leader(name): True for name, closure in self.touches if not closure}
        before = -1
        while before < len(touched):
            before = len(touched)
            places = self.touched_places(touched)
            for use, closure in self.own_calls:
                if not closure:
                    for place in places:
                        touched[self.names.leader(use[place])] = True
        return touched

    def touched_places(self, touched):
        """Return the list of the places whose leaders are among the touched names."""
        return [place for place in range(self.places) if self.names.leader(place) in touched]

    def home_blocks(self):
        """Return a dict from the leaders to the paths of the innermost blocks that contain all their mentions."""
        homes = {}
        for name, path in self.mentions:
            leader = self.names.leader(name)
            homes[leader] = _common_block(homes.get(leader, path), path)
        return homes


def _common_block(one, other):
    """Return the path of the innermost block in which two steps lie, or a block and a step."""
    length = 0
    while length < min(len(one), len(other)) and one[length] == other[length]:
        length += 1
    # A step has a path of even length. Where the paths part behind one, they lie in two of its blocks.
    return one[:length - 1 + length % 2]
