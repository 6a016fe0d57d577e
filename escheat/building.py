"""Building the text of a program: from the text to the code."""

from escheat.flat import flatten
from escheat.kinds import with_kinds
from escheat.machine import translate
from escheat.place import build
from escheat.words import read_program


def built_parts(text):
    """Return the tree with kinds, the flat program, the region program and the code of a text."""
    tree = with_kinds(read_program(text))
    program = flatten(tree)
    placed = build(program)
    return (tree, program, placed, translate(placed))
