"""The form of kinds, and the kinds of a tree that name data declarations."""

from escheat.limits import MAX_KIND, MAX_PARTS
from escheat.names import is_integer, is_natural

INT = ("int", (), 0)
BOOL = ("bool", (), 0)
UNIT = ("unit", (), 0)

# The parts of a kind with this head. A tuple has several numbers, a data kind has a name in their place.
HEADS = {"int": 0, "bool": 0, "unit": 0, "fn": 2, "ref": 1, "array": 1}

# The heads of the kinds whose values have no region.
PLAIN = ("int", "bool", "unit")


def kind_parts(value):
    """Return the tuple of what stands directly in a kind with region 0, or None if the value is no kind.

    Neither these parts nor what a data kind names are looked at.
    """
    if not _is_triple(value):
        return None
    head, what, region = value
    return _parts_of_head(head, what) if is_integer(region) and region == 0 else None


def region_kind_parts(value):
    """Return the same for a kind of a region program, in which the region is 0 for some heads only."""
    if not _is_triple(value):
        return None
    head, what, region = value
    if not is_natural(region) or head in PLAIN and region != 0:
        return None
    return _parts_of_head(head, what)


def _is_triple(value):
    return isinstance(value, tuple) and len(value) == 3


def _parts_of_head(head, what):
    """Return the tuple of what stands directly in a kind with this head, or None if the head is wrong or what is."""
    if not isinstance(head, str):
        return None
    if head == "data":
        return ()
    if not isinstance(what, tuple):
        return None
    holds = len(what) >= 2 if head == "tuple" else HEADS.get(head) == len(what)
    return what if holds else None


def is_valid_kind(value, names):
    """Tell whether a value is a valid kind of a tree, if the data kinds with these names are declared."""
    pending = [value]
    nodes = 0
    while pending:
        kind = pending.pop()
        nodes += 1
        parts = kind_parts(kind)
        if parts is None or len(parts) > MAX_PARTS or nodes > MAX_KIND:
            return False
        if kind[0] == "data" and not (isinstance(kind[1], str) and kind[1] in names):
            return False
        pending.extend(parts)
    return True


def numbered_kind(kind, numbers):
    """Return a valid kind with the numbers of data declarations in the place of their names."""
    head, what, region = kind
    if head == "data":
        return (head, numbers[what], region)
    return (head, tuple([numbered_kind(part, numbers) for part in what]), region)
