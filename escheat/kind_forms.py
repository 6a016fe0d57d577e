"""The form of kinds, and the kinds of a tree that name data declarations."""

from escheat.limits import MAX_KIND, MAX_PARTS
from escheat.names import is_integer

INT = ("int", (), 0)
BOOL = ("bool", (), 0)
UNIT = ("unit", (), 0)

# The parts of a kind with this head. A tuple has several numbers, a data kind has a name in their place.
HEADS = {"int": 0, "bool": 0, "unit": 0, "fn": 2, "ref": 1, "array": 1}


def kind_parts(value):
    """Return the tuple of what stands directly in a kind with region 0, or None if the value is no kind.

    Neither these parts nor what a data kind names are looked at.
    """
    if not isinstance(value, tuple) or len(value) != 3:
        return None
    head, what, region = value
    if not isinstance(head, str) or not is_integer(region) or region != 0:
        return None
    if head == "data":
        return ()
    if not isinstance(what, tuple):
        return None
    holds = len(what) >= 2 if head == "tuple" else HEADS.get(head) == len(what)
    return what if holds else None


def is_valid_kind(value, names):
    """Tell whether a value is a valid kind of a tree, if the data kinds with these names are declared."""
    pending = [value]
    nodes = 0
    while pending:
        kind = pending.pop()
        nodes += 1
        parts = kind_parts(kind)
        if parts is None or len(parts) > MAX_PARTS or nodes > MAX_KIND:
            return False
        if kind[0] == "data" and not (isinstance(kind[1], str) and kind[1] in names):
            return False
        pending.extend(parts)
    return True


def numbered_kind(kind, numbers):
    """Return a valid kind with the numbers of data declarations in the place of their names."""
    head, what, region = kind
    if head == "data":
        return (head, numbers[what], region)
    return (head, tuple([numbered_kind(part, numbers) for part in what]), region)
