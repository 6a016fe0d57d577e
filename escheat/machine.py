"""The machine: its code made from region programs, checked and run."""

from escheat.code_form import is_code
from escheat.errors import CodeError, RegionError
from escheat.executing import CodeRun
from escheat.limits import MAX_FUEL
from escheat.region_check import check_regions
from escheat.translating import translated_bodies


def translate(program):
    """Return the code of a region program, or raise CodeError if it is not safe."""
    try:
        check_regions(program)
    except RegionError:
        raise CodeError()
    _, exceptions, functions = program
    return (exceptions, translated_bodies(functions), len(functions) - 1)


def check_code(code):
    """Return None, or raise CodeError if a value is not well-formed code."""
    if not is_code(code):
        raise CodeError()


def run(code, arguments, *, fuel=MAX_FUEL):
    """Return the metered run (result, peak, left, events) of code, or raise CodeError."""
    check_code(code)
    state = CodeRun(code, fuel)
    state.run_main(arguments)
    return state.metered()
