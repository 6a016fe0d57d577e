"""Certificates: bounds of the words that the functions of a region program hold, checked and found."""

from escheat.arithmetic import wrap
from escheat.bounding import Bounding
from escheat.certificates import is_certificate
from escheat.errors import CertificateError
from escheat.limits import MAX_COEFFICIENT
from escheat.region_check import check_regions
from escheat.searching import goals_of, settle_claims


class Linear:
    """A linear expression: a constant, and a coefficient for each of its variables. All of them are 0 or more."""

    def __init__(self, constant, coefficients):
        self.constant = constant
        self.coefficients = coefficients

    def __add__(self, other):
        coefficients = [one + two for one, two in zip(self.coefficients, other.coefficients)]
        return Linear(self.constant + other.constant, tuple(coefficients))

    def at_most(self, other):
        """Tell whether each number is at most the one of another expression at the same index."""
        if self.constant > other.constant:
            return False
        return all([one <= two for one, two in zip(self.coefficients, other.coefficients)])

    def value(self, sizes):
        """Return the value if the variables have these values."""
        return self.constant + sum([one * size for one, size in zip(self.coefficients, sizes)])

    def is_small(self):
        """Tell whether no number is greater than MAX_COEFFICIENT."""
        return all([number <= MAX_COEFFICIENT for number in [self.constant, *self.coefficients]])

    def variable(self):
        """Return the index of the variable that the expression is, or None if it is anything else."""
        found = [index for index, number in enumerate(self.coefficients) if number != 0]
        if self.constant != 0 or len(found) != 1 or self.coefficients[found[0]] != 1:
            return None
        return found[0]

    def shifted(self, number):
        """Return the expression with a number more in its constant, which does not get below 0."""
        return Linear(max(self.constant + number, 0), self.coefficients)

    def raised(self, index, number):
        """Return the expression with a number more in the coefficient of a variable."""
        head, tail = self.coefficients[:index], self.coefficients[index + 1:]
        return Linear(self.constant, (*head, self.coefficients[index] + number, *tail))

    def times(self, number):
        """Return a number times the expression."""
        return Linear(self.constant * number, tuple([one * number for one in self.coefficients]))

    def joined(self, other):
        """Return the least expression that this one and another one are at most."""
        coefficients = [max(one, two) for one, two in zip(self.coefficients, other.coefficients)]
        return Linear(max(self.constant, other.constant), tuple(coefficients))

    def replaced(self, index, least, many):
        """Return the expression with least plus new variables in the place of a variable.

        One of the new variables has its index, and so many more of them come behind all others.
        """
        coefficient = self.coefficients[index]
        return Linear(self.constant + least * coefficient, self.coefficients + (coefficient,) * many)

    def put_back(self, index, least, many):
        """Return an expression in the old variables that is at least this one, in which one was replaced so."""
        old = len(self.coefficients) - many
        coefficient = max([self.coefficients[index], *self.coefficients[old:]])
        back = Linear(self.constant, self.coefficients[:old])
        return back.raised(index, coefficient - self.coefficients[index]).shifted(-least * coefficient)


def accept(program, certificates):
    """Return None if certificates hold for a region program, or raise RegionError or CertificateError."""
    check_regions(program)
    given = certificates if isinstance(certificates, (tuple, list)) else ()
    claims = {}
    for number, certificate in enumerate(given):
        if not is_certificate(certificate, program) or certificate[:2] in claims:
            raise CertificateError(number, "shape")
        claims[certificate[:2]] = _claims(certificate, program)
    if _main_goal(program) not in claims:
        raise CertificateError(-1, "main")
    for number, goal in enumerate(list(claims)):
        Bounding(program, goal, claims, number).walk_function()


def bound(program, certificates, arguments):
    """Return the words that a run of a region program holds at most, or raise as accept does or CertificateError."""
    accept(program, certificates)
    goal = _main_goal(program)
    if len(arguments) != len(program[2][-1][3]):
        raise CertificateError(-1, "arguments")
    (peak,) = [certificate[2] for certificate in certificates if certificate[:2] == goal]
    return _linear(peak).value([max(wrap(argument), 0) for argument in arguments])


def find(program):
    """Return certificates that hold for a region program, or raise RegionError or CertificateError."""
    check_regions(program)
    claims = {goal: _first_claims(goal, program) for goal in goals_of(program)}
    settle_claims(program, claims)
    return tuple([_certificate(goal, claims[goal], program) for goal in sorted(claims)])


def _main_goal(program):
    return (len(program[2]) - 1, ())


def _linear(numbers):
    """Return the expression with these numbers: the constant and the coefficients."""
    return Linear(numbers[0], tuple(numbers[1:]))


def _numbers(expression):
    return (expression.constant, *expression.coefficients)


def _others(goal, program):
    """Return the list of the regions in the touch of a goal's function that it does not own."""
    number, mine = goal
    return [region for region in program[2][number][2] if region not in mine]


def _claims(certificate, program):
    """Return what a certificate claims: a dict of expressions, in which regions stand for the growth of theirs."""
    number, mine, peak, growth, size = certificate
    claims = {region: _linear(numbers) for region, numbers in zip(_others((number, mine), program), growth)}
    claims["peak"] = _linear(peak)
    claims["size"] = None if size is None else _linear(size)
    return claims


def _first_claims(goal, program):
    """Return the claims in which all expressions are 0."""
    number, mine = goal
    zero = (0,) * (1 + len(program[2][number][3]) + len(mine))
    return _claims((number, mine, zero, [zero for _ in _others(goal, program)], zero), program)


def _certificate(goal, claims, program):
    """Return the certificate that claims this of a goal."""
    number, mine = goal
    growth = tuple([_numbers(claims[region]) for region in _others(goal, program)])
    size = claims["size"]
    return (number, mine, _numbers(claims["peak"]), growth, None if size is None else _numbers(size))
