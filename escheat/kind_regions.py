"""The regions that stand in kinds."""

from escheat.kind_forms import PLAIN


def with_regions(kind, change):
    """Return a kind in which every region is what a function makes of it."""
    head, what, region = kind
    if head in PLAIN:
        return kind
    if head == "data":
        return (head, what, change(region))
    # The outer region first: what change counts stands in the order of the text.
    outer = change(region)
    return (head, tuple([with_regions(part, change) for part in what]), outer)


def kind_in(kind, region):
    """Return a kind with one region in the place of every region."""
    return with_regions(kind, lambda old: region)


def kind_at_call(kind, use):
    """Return a kind of a called function as it is at a call with this use."""
    if not use:
        # A flat program, or a function without formals: there is only the region 0.
        return kind
    return with_regions(kind, lambda formal: use[formal][0])


def regions_of(kind):
    """Return the list of the regions of a kind, in the order of the text, each as often as it stands there."""
    regions = []
    pending = [kind]
    while pending:
        head, what, region = pending.pop()
        if head not in PLAIN:
            regions.append(region)
        if head != "data":
            pending.extend(list(reversed(what)))
    return regions
