"""Flat programs: made from trees with kinds, checked and run."""

from escheat.flat_check import check_flat
from escheat.flattening import flat_function
from escheat.limits import MAX_FUEL
from escheat.running import FlatRun


def flatten(tree):
    """Return the flat program of a tree with kinds."""
    datas, exceptions, functions = tree
    return (datas, exceptions, tuple([flat_function(function) for function in functions]))


def check(program):
    """Return None, or raise FlatError if a value is not a flat program."""
    check_flat(program)


def run(program, arguments, *, fuel=MAX_FUEL):
    """Return the result of a flat program."""
    check_flat(program)
    state = FlatRun(program, fuel)
    state.run_main(arguments)
    return state.outcome.result()
