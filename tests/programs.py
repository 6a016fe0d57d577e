"""Programs of all forms for the tests: from texts, and put together step by step."""

from escheat import flat, place, plain, regions
from escheat.errors import FlatError, RegionError
from escheat.kinds import with_kinds
from escheat.words import read_program
from tests.helpers import BOOL, FIRST, INT, UNIT

PAIR = ("tuple", (INT, INT), 0)


def typed(text):
    """The tree with kinds of a text."""
    return with_kinds(read_program(text))


def flattened(text):
    return flat.flatten(typed(text))


def found(text):
    return place.find(flattened(text))


def in_pair(region):
    """The kind of pairs of integers in a region."""
    return ("tuple", (INT, INT), region)


def step(op, out, kind, ins=(), info=None, *, region=0, use=(), blocks=()):
    return (op, out, kind, tuple(ins), info, region, tuple(use), tuple(blocks))


def number(out, value=1):
    return step("int", out, INT, (), value)


def new(region):
    return step("new", -1, UNIT, region=region)


def end(region):
    return step("end", -1, UNIT, region=region)


def pair(out, region, first=0, second=0):
    return step("tuple", out, in_pair(region), (first, second), region=region)


def block(steps, value, bind=()):
    return (tuple(bind), tuple(steps), value)


def function(steps, value, *, name="f", kinds=(), result=INT, formals=0, touch=(), bind=()):
    return (name, formals, tuple(touch), tuple(kinds), result, block(steps, value, bind))


def program(*functions, datas=(), exceptions=()):
    return (datas, FIRST + exceptions, functions)


def main_of(steps, value, kinds=(INT,), **more):
    """A program whose only function has these steps; the parameter is the variable 0."""
    return program(function(steps, value, name="main", kinds=kinds), **more)


def flat_fault(value):
    """The path of the FlatError that a check raises, or None."""
    try:
        flat.check(value)
    except FlatError as error:
        return error.path
    return None


def region_fault(value, judge=regions.check):
    """The path and the reason of the RegionError that a check raises, or None."""
    try:
        judge(value)
    except RegionError as error:
        return (error.path, error.reason)
    return None


def all_results(text, arguments, fuel=200):
    """The results of a text in the plain meaning, flat, with the coarse regions and with those that are found."""
    tree = typed(text)
    program = flat.flatten(tree)
    return (
        plain.run(tree, arguments, fuel=fuel),
        flat.run(program, arguments, fuel=fuel),
        regions.run(place.coarse(program), arguments, fuel=fuel)[0],
        regions.run(place.build(program), arguments, fuel=fuel)[0],
    )


__all__ = [
    "BOOL", "FIRST", "INT", "PAIR", "UNIT", "all_results", "block", "end", "flat_fault", "flattened", "found",
    "function", "in_pair", "main_of", "new", "number", "pair", "program", "region_fault", "step", "typed",
]
