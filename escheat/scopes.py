"""Scopes: dicts from the names that can be used at a place to what they stand for."""


def inner_scope(scope, names, values):
    """Return a scope in which names with these values hide the outer ones that are equal."""
    inner = dict(scope)
    for name, value in zip(names, values):
        inner[name] = value
    return inner
