"""Placing regions: from flat programs to region programs."""

from escheat.errors import RegionError
from escheat.flat_check import check_flat
from escheat.following import can_follow, is_place
from escheat.numbering import numbered_function
from escheat.placing import Placing, coarse_function
from escheat.region_check import check_regions
from escheat.region_form import erase_regions
from escheat.touching import touches_of_function


def find(program):
    """Return a region program for a flat program, or raise FlatError.

    Cells share a region only if they must, and a region begins as late and ends as early as it can. If that takes
    too many regions, the answer is the coarse program.
    """
    check_flat(program)
    datas, exceptions, functions = program
    done = []
    for number, function in enumerate(functions):
        numbered = numbered_function((datas, exceptions, (*done, function)), number)
        if numbered is None:
            return coarse(program)
        found, starts = numbered
        placing = Placing((datas, exceptions, (*done, found)), number, starts)
        done.append(placing.placed())
    return (datas, exceptions, tuple(done))


def coarse(program):
    """Return the region program with one region for all cells of a flat program, or raise FlatError."""
    check_flat(program)
    datas, exceptions, functions = program
    main = len(functions) - 1
    coarsened = [coarse_function(function, number, main) for number, function in enumerate(functions)]
    return (datas, exceptions, tuple(coarsened))


def build(program):
    """Return what find returns if it is safe, and the coarse program otherwise, or raise FlatError."""
    found = find(program)
    try:
        check_regions(found)
    except RegionError:
        return coarse(program)
    return found if erase_regions(found) == program else coarse(program)


def keeper(program, place, region):
    """Return the path of a step that can follow a place and touches a region, or None; or raise RegionError."""
    check_regions(program)
    if not is_place(program, place):
        return None
    for path, touched in touches_of_function(program, place[0]).items():
        if region in touched and can_follow(program, place, path):
            return path
    return None
