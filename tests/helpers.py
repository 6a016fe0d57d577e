"""What several tests need: marked texts, hand-made trees, and trees with one place replaced."""

from escheat.errors import KindError, TextError
from escheat.kinds import with_kinds
from escheat.words import read_program

INT = ("int", (), 0)
BOOL = ("bool", (), 0)
UNIT = ("unit", (), 0)
FIRST = ("Div", "Index", "Size")

ONE = ("int", 1, 7, (), ())


def deep(levels):
    """A tuple that is nested so many levels deep."""
    value = ()
    for _ in range(levels - 1):
        value = (value,)
    return value


JUNK = (
    None, True, False, 0, 1, -1, 3, 10 ** 30, "", "a", "Div", "int", "main", "%", "no name",
    (), (None,), ("int", (), 0), ("int", (), False), ("data", "a", 0), ("a", "b", "c"),
    ("unit", 5, None, (), ()), deep(100),
)


def split_mark(marked):
    """A text with one ^ in it, as the text without it and the index at which it stands."""
    assert marked.count("^") == 1, marked
    at = marked.index("^")
    return marked[:at] + marked[at + 1:], at


def text_fault(text):
    """The index of the TextError that reading raises, or None."""
    try:
        read_program(text)
    except TextError as error:
        return error.at
    return None


def kind_fault(tree):
    """The index of the KindError that checking raises, or None."""
    try:
        with_kinds(tree)
    except KindError as error:
        return error.at
    return None


def main_text(body, parameters="()", before=""):
    return f"{before}(fun main {parameters} int {body})"


def body_of(text):
    """The body of the last function of a text's tree."""
    return read_program(text)[2][-1][4]


def tree_of(body, *, datas=(), exceptions=(), parameters=()):
    """A tree whose main function has this body."""
    return (datas, FIRST + exceptions, (("main", 5, parameters, INT, body),))


def drop_indexes(tree):
    """A right tree with 0 in the place of every index."""
    return change_indexes(tree, lambda at: 0)


def change_indexes(tree, change):
    """A right tree with every index changed."""
    def inner(expression):
        op, at, info, kids, arms = expression
        new_arms = tuple((name, variables, inner(body)) for name, variables, body in arms)
        return (op, change(at), info, tuple(inner(kid) for kid in kids), new_arms)

    datas, exceptions, functions = tree
    return (datas, exceptions, tuple(
        (name, change(at), parameters, result, inner(body)) for name, at, parameters, result, body in functions
    ))


def places(value):
    """The paths of all places in nested tuples; the empty path is the whole value."""
    yield ()
    if isinstance(value, tuple):
        for index, part in enumerate(value):
            for path in places(part):
                yield (index,) + path


def part_at(value, path):
    for index in path:
        value = value[index]
    return value


def replace(value, path, new):
    """Nested tuples with another value at a path."""
    if not path:
        return new
    first = path[0]
    return value[:first] + (replace(value[first], path[1:], new),) + value[first + 1:]
