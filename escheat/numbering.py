"""The regions of a function by their numbers, and where they begin."""

from escheat.kind_regions import with_regions
from escheat.limits import MAX_REGIONS
from escheat.region_names import Names, Naming, named_function
from escheat.steps import makes_cell


def numbered_function(program, number):
    """Return a function with its regions, but without new and end steps, and where its own regions begin.

    The functions above it have their regions, it has none yet. Where its regions begin is a dict from the path of
    a step to the list of those that begin directly before it. The answer is None if there would be too many.
    """
    datas, exceptions, functions = program
    names = Names()
    named = named_function(functions[number], names, [function[1] for function in functions[:number]])
    naming = Naming((datas, exceptions, (*functions[:number], named)), number, names)
    naming.settle()
    _join_untouched(naming)
    numbering = Numbering(naming)
    if len(numbering.numbers) > MAX_REGIONS:
        return None
    return numbering.numbered(named), numbering.starts


def _join_untouched(naming):
    """Make the names equal that are no formals and are never touched: one region is enough for them."""
    names = naming.names
    touched = {names.leader(name): True for name, _ in naming.all_touches()}
    homes = naming.home_blocks()
    untouched = [leader for leader in homes if leader not in touched and not naming.is_formal(leader)]
    for leader in untouched:
        names.make_equal(leader, untouched[0])


class Numbering:
    """The numbers of the regions of a function whose names are settled.

    - formals: the leaders of the names of the formals, in the order of their numbers.
    - touched_formals: the numbers of the formals that the function touches.
    - numbers: the numbers of all regions, by the leaders of their names.
    - starts: the lists of the regions that begin directly before the steps with these paths.
    """

    def __init__(self, naming):
        self.naming = naming
        self.names = naming.names
        self.formals = [place for place in range(naming.places) if naming.names.leader(place) == place]
        touched = naming.outer_touches()
        self.touched_formals = tuple([number for number, leader in enumerate(self.formals) if leader in touched])
        self.numbers = {leader: number for number, leader in enumerate(self.formals)}
        self.starts = {}
        for path, leader in self.first_mentions():
            number = len(self.numbers)
            self.numbers[leader] = number
            self.starts.setdefault(path, []).append(number)

    def first_mentions(self):
        """Return the pairs of the path of a step and the leader of a region that begins before it, in order.

        The step lies in the innermost block that contains all mentions of the region, and is the first there.
        """
        homes = self.naming.home_blocks()
        firsts = {}
        for name, path in self.naming.mentions:
            leader = self.names.leader(name)
            start = path[:len(homes[leader]) + 1]
            firsts[leader] = min(firsts.get(leader, start), start)
        return sorted([(path, leader) for leader, path in firsts.items() if not self.naming.is_formal(leader)])

    def numbered(self, named):
        """Return the function with numbers in the place of the names."""
        name, _, _, kinds, result, body = named
        kinds = tuple([self.numbered_kind(kind) for kind in kinds])
        result = self.numbered_kind(result)
        return (name, len(self.formals), self.touched_formals, kinds, result, self.numbered_block(body))

    def number_of(self, name):
        """Return the number of the region with a name."""
        return self.numbers[self.names.leader(name)]

    def numbered_kind(self, kind):
        """Return a kind with numbers in the place of the names."""
        return with_regions(kind, lambda name: self.number_of(name))

    def numbered_block(self, block):
        """Return a block with numbers in the place of the names."""
        bind, steps, value = block
        return (bind, tuple([self.numbered_step(step) for step in steps]), value)

    def numbered_step(self, step):
        """Return a step with numbers in the place of the names."""
        op, out, kind, ins, info, region, use, blocks = step
        region = self.number_of(region) if makes_cell(step) else 0
        use = self.numbered_use(info, use) if op == "call" else ()
        blocks = tuple([self.numbered_block(block) for block in blocks])
        return (op, out, self.numbered_kind(kind), ins, info, region, use, blocks)

    def numbered_use(self, callee, use):
        """Return the use of a call, in which no region is handed over for good."""
        touch = self.touched_formals
        if callee == self.naming.known.number:
            # One of the places at which the formal stands is enough: the names are equal at the others.
            use = [use[leader] for leader in self.formals]
        else:
            touch = self.naming.known.functions[callee][2]
        modes = ["keep" if formal in touch else "none" for formal in range(len(use))]
        return tuple([(self.number_of(name), mode) for (name, _), mode in zip(use, modes)])
