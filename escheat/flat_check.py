"""Checking flat programs."""

from escheat.errors import FlatError
from escheat.flat_form import is_flat_form, kind_fits, whole_holds
from escheat.kind_forms import INT
from escheat.limits import MAX_ARGUMENTS, MAX_PARTS
from escheat.step_rules import bound_kinds, step_holds
from escheat.steps import allows_ins, is_flat_op
from escheat.walking import Walk


def check_flat(program):
    """Raise FlatError if a value is not a flat program."""
    _expect(is_flat_form(program) and whole_holds(program), ())
    for number in range(len(program[2])):
        FlatCheck(program, number).walk_function()


def _expect(holds, path):
    """Raise FlatError with a path at which something does not hold."""
    if not holds:
        raise FlatError(path)


class FlatCheck(Walk):
    """The check of one function of a value that has the form of a flat program."""

    def __init__(self, program, number):
        super().__init__(program, number)
        self.count = len(program[0])
        # The variables that are bound so far, in scope or not.
        self.taken = {}

    def walk_function(self):
        """Check the head and the body of the function."""
        number = self.known.number
        _, _, _, kinds, result, body = self.known.functions[number]
        _expect(self.head_holds(kinds, result, body), (number,))
        self.take_variables((number,), list(range(len(kinds))))
        super().walk_function()

    def head_holds(self, kinds, result, body):
        """Tell whether the kinds of the parameters and of the result are right, and the body binds nothing."""
        if len(kinds) > MAX_PARTS or body[0]:
            return False
        if self.known.number + 1 == len(self.known.functions):
            return len(kinds) <= MAX_ARGUMENTS and all([kind == INT for kind in [*kinds, result]])
        return all([kind_fits(kind, self.count) for kind in [*kinds, result]])

    def take_variables(self, path, variables):
        """Bind variables, none of which may be bound before."""
        for variable in variables:
            _expect(variable not in self.taken, path)
            self.taken[variable] = True

    def at_step(self, path, step, kinds):
        """Check a step, but not what is in its blocks."""
        op, out, kind, ins, _, _, _, blocks = step
        _expect(is_flat_op(op) and allows_ins(op, len(ins)) and kind_fits(kind, self.count), path)
        _expect(all([variable in kinds for variable in ins]), path)
        found = [kinds[variable] for variable in ins]
        _expect(step_holds(step, found, self.known), path)
        bound = bound_kinds(step, found, self.known.datas)
        _expect([len(block[0]) for block in blocks] == [len(each) for each in bound], path)
        self.take_variables(path, (out,))
        for bind, _, _ in blocks:
            self.take_variables(path, bind)

    def at_value(self, path, value, kinds, wanted):
        """Check the value of a block."""
        _expect(value in kinds and wanted in (None, kinds[value]), path)
