"""The visit of a function that checks what is claimed of it, step by step.

The variables of the claims are the first path variables. Where one of them is replaced, one of the new path variables
takes its index, and the others come behind all that there are.
"""

from escheat.bound_rules import NESTED, UNSIZED, learn_value, words_of_cell
from escheat.errors import CertificateError
from escheat.following import final_places
from escheat.steps import JOINING_OPS
from escheat.walking import Walk


class Place:
    """What is known at a place.

    - zero: the expression 0, in the path variables of the place.
    - path: the replacements of path variables, tuples (index, least, many), in order.
    - bounds: the bound of each variable, or None if it is unknown.
    - least: the least values of the variables of which they are known; constants: the values of the constants.
    - owned: the words held in the regions that the function owns; grown: those added to the others of its touch.
    """

    def __init__(self, zero):
        self.zero = zero
        self.path = []
        self.bounds = {}
        self.least = {}
        self.constants = {}
        self.owned = {}
        self.grown = {}

    def branch(self):
        """Return a place at which the same is known."""
        place = Place(self.zero)
        place.path = list(self.path)
        place.bounds = dict(self.bounds)
        place.least = dict(self.least)
        place.constants = dict(self.constants)
        place.owned = dict(self.owned)
        place.grown = dict(self.grown)
        return place

    def substitute(self, index, least, many):
        """Put least plus new path variables in the place of a path variable, in all expressions."""
        self.path.append((index, least, many))
        self.zero = self.zero.replaced(index, least, many)
        for variable, bound in list(self.bounds.items()):
            if bound is not None:
                self.learn_bound(variable, bound.replaced(index, least, many))
        self.owned = {region: words.replaced(index, least, many) for region, words in self.owned.items()}
        self.grown = {region: words.replaced(index, least, many) for region, words in self.grown.items()}

    def learn_bound(self, variable, bound):
        """Give a variable a bound, which is unknown if one of its numbers is too great."""
        self.bounds[variable] = bound if bound is not None and bound.is_small() else None

    def learn_as(self, variable, other):
        """Let the same be known of a variable as of another one."""
        self.bounds[variable] = self.bounds[other]
        for known in (self.least, self.constants):
            if other in known:
                known[variable] = known[other]

    def variable_of(self, variable):
        """Return the index of the path variable that the bound of a variable is, or None."""
        bound = self.bounds[variable]
        return None if bound is None else bound.variable()

    def now(self, taken):
        """Return the sum of all that is held and grown, without the regions that are taken."""
        total = self.zero
        for region, words in self.owned.items():
            if region not in taken:
                total = total + words
        for words in self.grown.values():
            total = total + words
        return total

    def seen_from(self, before, expression):
        """Return an expression of this place with the path variables of an earlier place."""
        for index, least, many in reversed(self.path[len(before.path):]):
            expression = expression.put_back(index, least, many)
        return expression

    def words_from(self, before, words):
        """Return expressions of this place, by regions, with the path variables of an earlier place."""
        return {region: self.seen_from(before, expression) for region, expression in words.items()}

    def bound_from(self, before, variable):
        """Return the bound of a variable of this place with the path variables of an earlier place, or None."""
        bound = self.bounds[variable]
        return None if bound is None else self.seen_from(before, bound)


class Bounding(Walk):
    """The check of what is claimed of one goal: a function, and those regions of its touch that the call owns.

    The claims of each goal are a dict: the expressions "peak" and "size", and for each region of the touch that the
    call does not own its growth.
    """

    def __init__(self, program, goal, claims, number):
        function, mine = goal
        super().__init__(program, function)
        self.claims = claims
        self.own = claims[goal]
        self.number = number
        self.reason = "bound"
        _, _, touch, kinds, _, body = program[2][function]
        self.finals, self.ends = final_places((function,), body)
        self.comparisons = {}
        # The places before the steps with blocks, and the lists of those at the ends of their blocks.
        self.before = {}
        self.behind = {}
        peak = self.own["peak"]
        zero = peak.times(0)
        self.place = Place(zero)
        self.place.bounds = {variable: zero.raised(variable, 1) for variable in range(len(kinds))}
        self.place.owned = {region: zero.raised(len(kinds) + at, 1) for at, region in enumerate(mine)}
        self.place.grown = {region: zero for region in touch if region not in mine}

    def fail(self):
        """Refuse the claims."""
        raise CertificateError(self.number, self.reason)

    def demand(self, part, expression):
        """Ask that an expression is at most what is claimed of a part."""
        if not expression.at_most(self.on_path(self.own[part])):
            self.fail()

    def demand_size(self, bound):
        """Ask that the bound of the result is at most what is claimed of its size."""
        if self.own["size"] is not None:
            if bound is None:
                self.fail()
            self.demand("size", bound)

    def on_path(self, claim):
        """Return an expression of the claims with the path variables of the place."""
        for index, least, many in self.place.path:
            claim = claim.replaced(index, least, many)
        return claim

    def expect_small(self):
        """Ask that no number is too great in what is held, and in the sum of it."""
        if not self.place.now(()).is_small():
            self.fail()

    def walk_function(self):
        """Check the body of the function."""
        self.demand("peak", self.place.now(()))
        super().walk_function()

    def at_step(self, path, step, kinds):
        """Follow a step, but not its blocks."""
        op, out, _, ins, _, region, _, _ = step
        if op == "new":
            self.place.owned[region] = self.place.zero
        elif op == "end":
            self.place.owned.pop(region, None)
        elif op in JOINING_OPS:
            self.before[path] = self.place
        elif op == "call":
            self.at_call(step)
        elif op == "apply":
            self.fail()
        else:
            words = words_of_cell(self.place, step)
            if words is not None:
                self.add_words(region, words)
                self.demand("peak", self.place.now(()))
            learn_value(self.place, step, kinds)
        if op == "less":
            self.comparisons[out] = ins

    def add_words(self, region, words):
        """Add words to what is held in a region that the function touches."""
        place = self.place
        if region in place.owned:
            place.owned[region] = place.owned[region] + words
        else:
            place.grown[region] = place.grown[region] + words
            self.demand(region, place.grown[region])
        self.expect_small()

    def at_call(self, step):
        """Follow a call of a function, of which something must be claimed."""
        _, out, kind, ins, callee, _, use, _ = step
        place = self.place
        formals = [at for at, (region, mode) in enumerate(use) if mode == "last" and region in place.owned]
        taken = [use[formal][0] for formal in formals]
        claims = self.claims.get((callee, tuple(formals)))
        if claims is None:
            self.fail()
        values = [place.bounds[variable] for variable in ins] + [place.owned[region] for region in taken]
        self.demand("peak", place.now(taken) + self.at_values(claims["peak"], values))
        for region in taken:
            del place.owned[region]
        for formal in self.known.functions[callee][2]:
            if formal not in formals:
                self.add_words(use[formal][0], self.at_values(claims[formal], values))
        size = claims["size"]
        if size is not None and _is_known(size, values):
            place.learn_bound(out, self.at_values(size, values))
        else:
            place.learn_bound(out, None if kind[0] in NESTED + UNSIZED else place.zero)

    def at_values(self, claim, values):
        """Return an expression of the claims of a called function if its variables have these values."""
        if not _is_known(claim, values):
            self.fail()
        total = self.place.zero.shifted(claim.constant)
        for coefficient, value in zip(claim.coefficients, values):
            if coefficient > 0:
                total = total + value.times(coefficient)
        return total

    def walk_inner(self, path, step, index, kinds):
        """Follow a block of a step, unless it is a closure's."""
        if step[0] == "fn":
            return step[2][1][1]
        enter = ENTRANCES[step[0]]
        self.place = self.before[path].branch()
        enter(self, path, step, index, kinds)
        found = super().walk_inner(path, step, index, kinds)
        self.behind.setdefault(path, []).append(self.place)
        return found

    def at_value(self, path, value, kinds, wanted):
        """Look at the value of a block that is the result of the function."""
        if path in self.ends:
            self.demand_size(self.place.bounds[value])

    def behind_blocks(self, path, step):
        """Join what is known at the ends of the blocks behind which the function goes on."""
        op, out, _, _, _, _, _, blocks = step
        if op not in JOINING_OPS or path in self.finals:
            return
        first = 1 if op == "handle" else 0
        before = self.before[path]
        ends = self.behind[path][first:]
        values = [value for _, _, value in blocks[first:]]
        owned = {region: before.owned[region] for region in ends[0].owned}
        self.place = before.branch()
        self.place.owned = _joined_words([owned, *[end.words_from(before, end.owned) for end in ends]])
        self.place.grown = _joined_words([before.grown, *[end.words_from(before, end.grown) for end in ends]])
        self.place.bounds[out] = _joined_bounds([end.bound_from(before, value) for end, value in zip(ends, values)])
        least = [end.least.get(value) for end, value in zip(ends, values)]
        if None not in least:
            self.place.least[out] = min(least)
        self.expect_small()

    def substitute(self, index, least, many):
        """Put least plus new path variables in the place of a path variable."""
        self.place.substitute(index, least, many)
        self.expect_small()
        for claim in list(self.own.values()):
            if claim is not None and not self.on_path(claim).is_small():
                self.fail()

    def learn_least(self, variable, least):
        """Use that a variable is not less than a number."""
        place = self.place
        if variable in place.least and place.least[variable] >= least:
            return
        place.least[variable] = least
        index = place.variable_of(variable)
        if least > 0 and index is not None:
            self.substitute(index, least, 0)


def _is_known(claim, values):
    """Tell whether an expression has a value if its variables have these, of which some are unknown."""
    return not any([number > 0 and value is None for number, value in zip(claim.coefficients, values)])


def _joined_words(several):
    """Return the least expressions, by regions, that those of several dicts are at most."""
    joined, *others = several
    for words in others:
        joined = {region: expression.joined(words[region]) for region, expression in joined.items()}
    return joined


def _joined_bounds(bounds):
    """Return the least bound that these are at most, which is unknown if one of them is."""
    if None in bounds:
        return None
    joined, *others = bounds
    for bound in others:
        joined = joined.joined(bound)
    return joined


def _enter_if(visit, path, step, index, kinds):
    condition = step[3][0]
    if condition not in visit.comparisons:
        return
    first, second = visit.comparisons[condition]
    constants = visit.place.constants
    if index == 0 and first in constants:
        visit.learn_least(second, constants[first] + 1)
    if index == 1 and second in constants:
        visit.learn_least(first, constants[second])


def _enter_case(visit, path, step, index, kinds):
    fields = step[7][index][0]
    if not fields:
        return
    place = visit.place
    value = step[3][0]
    nested = [variable for variable in fields if kinds[variable][0] in NESTED]
    words = 1 + len(fields)
    at = place.variable_of(value)
    if at is not None:
        count = len(place.zero.coefficients)
        visit.substitute(at, words, len(nested))
        inner = [place.zero.raised(count + number, 1) for number in range(len(nested))]
    else:
        bound = place.bounds[value]
        inner = [None if bound is None else bound.shifted(-words) for _ in nested]
    for variable in fields:
        place.bounds[variable] = None if kinds[variable][0] in UNSIZED else place.zero
    for variable, bound in zip(nested, inner):
        place.bounds[variable] = bound


def _enter_handle(visit, path, step, index, kinds):
    if index == 0:
        return
    visit.place = visit.behind[path][0].branch()
    (variable,) = step[7][index][0]
    if index == 1:
        visit.place.learn_as(variable, step[7][0][2])
    else:
        visit.place.bounds[variable] = None


ENTRANCES = {"if": _enter_if, "case": _enter_case, "handle": _enter_handle}
