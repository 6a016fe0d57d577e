"""Visiting the steps of a function in the order of the text: a step before its blocks, a block's end behind them."""

from escheat.scopes import inner_scope
from escheat.step_rules import Known, bound_kinds, value_kind


class Walk:
    """A visit of one function of a program, with the kinds of the variables that are in scope at each place.

    Here nothing is done at the places: a check, or whatever else needs the visit, does it in a class of its own.
    """

    def __init__(self, program, number):
        self.known = Known(program, number)

    def walk_function(self):
        """Visit the body of the function."""
        number = self.known.number
        _, _, _, kinds, result, body = self.known.functions[number]
        self.walk_block((number,), body, dict(enumerate(kinds)), result)

    def walk_block(self, path, block, kinds, wanted):
        """Visit a block, whose value must have a kind unless it is None, and return the kind that it has.

        The variables that are in scope at the block's start have these kinds; those of its steps are added.
        """
        _, steps, value = block
        for index, step in enumerate(steps):
            self.walk_step(path + (index,), step, kinds)
            kinds[step[1]] = step[2]
        self.at_value(path, value, kinds, wanted)
        return kinds[value]

    def walk_step(self, path, step, kinds):
        """Visit a step and its blocks."""
        self.at_step(path, step, kinds)
        bound = bound_kinds(step, [kinds[variable] for variable in step[3]], self.known.datas)
        for index, block in enumerate(step[7]):
            found = self.walk_inner(path, step, index, inner_scope(kinds, block[0], bound[index]))
            if step[0] == "handle" and index == 0:
                self.at_normal_arm(path, found)
                bound[1] = (found,)
        self.behind_blocks(path, step)

    def walk_inner(self, path, step, index, kinds):
        """Visit a block of a step, and return the kind of its value."""
        return self.walk_block(path + (index,), step[7][index], kinds, value_kind(step, index))

    def at_step(self, path, step, kinds):
        """Look at a step, before its blocks."""

    def at_normal_arm(self, path, kind):
        """Look at the kind that the normal arm of a handle step binds, before that arm."""

    def at_value(self, path, value, kinds, wanted):
        """Look at the value of a block, at its end."""

    def behind_blocks(self, path, step):
        """Look at a step again, behind its blocks."""
