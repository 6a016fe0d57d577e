"""Region programs: checked, stripped of their regions, and run."""

from escheat.limits import MAX_FUEL
from escheat.metering import MeteredRun
from escheat.region_check import check_regions, check_scopes, check_shape
from escheat.region_form import erase_regions
from escheat.steps import free_variables


def check(program):
    """Return None, or raise RegionError if a value is not a safe region program."""
    check_regions(program)


def erase(program):
    """Return the flat program of a region program, or raise RegionError if the value does not have its form."""
    check_shape(program)
    return erase_regions(program)


def captured(block):
    """Return the ascending tuple of the variables that a closure with this block captures."""
    return free_variables(block)


def run(program, arguments, *, fuel=MAX_FUEL):
    """Return the metered run (result, peak, left, events) of a region program."""
    check_scopes(program)
    state = MeteredRun(program, fuel)
    state.run_main(arguments)
    return state.metered()
