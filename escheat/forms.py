"""The forms of a text, and what is required of their parts.

A part of a form is a tuple (word, at, parts). A word has None as parts; a form has the word "".
"""

from escheat.errors import TextError
from escheat.limits import MAX_DEPTH
from escheat.names import is_exception_name, is_great_name, is_numeral, is_small_name


def nest(words, end):
    """Return the list of the forms that the words of a text make; end is the text's length."""
    forms = []
    begun = []
    for word, at in words:
        if word == "(":
            if len(begun) == MAX_DEPTH:
                raise TextError(at)
            begun.append((at, []))
        elif not begun:
            raise TextError(at)
        elif word == ")":
            start, parts = begun.pop()
            around = begun[-1][1] if begun else forms
            around.append(("", start, tuple(parts)))
        else:
            begun[-1][1].append((word, at, None))
    if begun:
        raise TextError(end)
    return forms


def is_word(part):
    """Tell whether a part is a word."""
    return part[2] is None


def form_parts(part):
    """Return the parts of a part that must be a form."""
    if is_word(part):
        raise TextError(part[1])
    return part[2]


def counted_parts(part, least, most):
    """Return the parts of a part that must be a form with so many parts."""
    parts = form_parts(part)
    if not least <= len(parts) <= most:
        raise TextError(part[1])
    return parts


def first_word(part):
    """Return the first part of a form, which must be a word."""
    parts = part[2]
    if not parts:
        raise TextError(part[1])
    return require(parts[0], is_word(parts[0]))


def require(part, holds):
    """Return the word of a part of which something must hold."""
    if not holds:
        raise TextError(part[1])
    return part[0]


def small_name(part, taken=()):
    """Return the word of a part that must be a small name and none of those that are taken."""
    return require(part, is_small_name(part[0]) and part[0] not in taken)


def great_name(part, taken=()):
    """Return the word of a part that must be a great name and none of those that are taken."""
    return require(part, is_great_name(part[0]) and part[0] not in taken)


def exception_name(part):
    """Return the word of a part that must name an exception."""
    return require(part, is_exception_name(part[0]))


def numeral_below(part, bound):
    """Return the value of a part that must be a numeral from 0 to bound - 1."""
    return int(require(part, is_numeral(part[0]) and 0 <= int(part[0]) < bound))


def small_names(parts):
    """Return the tuple of the words of parts that must be different small names."""
    names = []
    for part in parts:
        names.append(small_name(part, names))
    return tuple(names)
