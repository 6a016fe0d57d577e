"""Finding certificates: claims that begin with 0 are raised where they are not enough, until they are."""

from escheat.bounding import Bounding
from escheat.errors import CertificateError

# So often are the claims of a function looked at.
ROUNDS = 12

# In so many rounds a constant is raised.
CONSTANT_ROUNDS = 2


def goals_of(program):
    """Return the list of the goals: main, and what the functions of goals call, with the regions that it takes."""
    pending = [(len(program[2]) - 1, ())]
    found = {}
    while pending:
        goal = pending.pop()
        if goal not in found:
            found[goal] = True
            pending.extend(_called_goals(program, goal))
    return list(found)


def _called_goals(program, goal):
    """Return the list of the goals that a goal's function calls outside of closures."""
    number, mine = goal
    _, formals, _, _, _, body = program[2][number]
    goals = []
    pending = [body]
    while pending:
        _, steps, _ = pending.pop()
        for op, _, _, _, callee, _, use, blocks in steps:
            if op == "call":
                owned = [region in mine or region >= formals for region, _ in use]
                modes = [mode for _, mode in use]
                taken = [at for at in range(len(use)) if owned[at] and modes[at] == "last"]
                goals.append((callee, tuple(taken)))
            if op != "fn":
                pending.extend(blocks)
    return goals


def settle_claims(program, claims):
    """Raise what is claimed of the goals until it holds, or raise CertificateError."""
    for number in range(len(program[2])):
        _settle_function(program, [goal for goal in sorted(claims) if goal[0] == number], claims)


def _settle_function(program, goals, claims):
    rounds = {}
    for number in range(ROUNDS):
        raised = False
        for goal in goals:
            search = Search(program, goal, claims, rounds.setdefault(goal, {}), number)
            search.walk_function()
            raised = raised or search.has_raised
        if not raised:
            return
    raise CertificateError(-1, "none")


class Search(Bounding):
    """A visit that raises what is claimed of a goal where it is not enough.

    For each part of the claims, rounds has the list of the numbers of those rounds in which its constant was raised.
    """

    def __init__(self, program, goal, claims, rounds, number):
        super().__init__(program, goal, claims, -1)
        self.reason = "none"
        self.rounds = rounds
        self.turn = number
        self.has_raised = False

    def demand(self, part, expression):
        """Raise a part of the claims until an expression is at most that."""
        for index, origin in enumerate(self.origins()):
            missing = expression.coefficients[index] - self.on_path(self.own[part]).coefficients[index]
            if missing > 0:
                self.raise_part(part, self.own[part].raised(origin, missing))
        missing = expression.constant - self.on_path(self.own[part]).constant
        if missing > 0:
            self.raise_constant(part, missing)

    def demand_size(self, bound):
        """Raise the size, and give it up if the bound of the result is unknown."""
        if bound is None and self.own["size"] is not None:
            self.raise_part("size", None)
        super().demand_size(bound)

    def origins(self):
        """Return the list of the variables of the claims from which the path variables came."""
        origins = list(range(len(self.own["peak"].coefficients)))
        for index, _, many in self.place.path:
            origins.extend([origins[index]] * many)
        return origins

    def raise_part(self, part, claim):
        """Put a raised expression into the claims."""
        if claim is not None and not self.on_path(claim).is_small():
            self.fail()
        self.own[part] = claim
        self.has_raised = True

    def raise_constant(self, part, missing):
        """Raise the constant of a part, or, if that was done often enough, a coefficient."""
        rounds = self.rounds.setdefault(part, [])
        if self.turn not in rounds:
            rounds.append(self.turn)
        claim = self.own[part]
        if len(rounds) <= CONSTANT_ROUNDS:
            self.raise_part(part, claim.shifted(missing))
        elif not self.place.path:
            self.fail()
        else:
            index, least, _ = self.place.path[-1]
            self.raise_part(part, claim.raised(self.origins()[index], (missing + least - 1) // least))
