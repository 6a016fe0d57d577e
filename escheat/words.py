"""Texts and trees: reading, writing and comparing programs."""

from escheat.errors import TextError
from escheat.forms import nest
from escheat.limits import MAX_NODES, MAX_TEXT
from escheat.names import FIRST_EXCEPTIONS, is_numeral
from escheat.reading import read_declarations
from escheat.shapes import count_expressions, ends_in_main, inner_expressions, is_expression, is_function, is_tree
from escheat.writing import data_text, exception_text, function_text

# A percent sign, which no text may have.
PERCENT = 37


def split_words(text):
    """Return the list of the pairs (word, index) of a text, in order."""
    _check_characters(text)
    words = []
    at = 0
    while at < len(text):
        end = _piece_end(text, at)
        if text[at] not in " \n\t;":
            words.append((text[at:end], at))
        at = end
    return words


def _check_characters(text):
    if len(text) > MAX_TEXT:
        raise TextError(0)
    for at, character in enumerate(text):
        printable = " " <= character <= "~" and ord(character) != PERCENT
        if not printable and character not in "\n\t":
            raise TextError(at)


def _piece_end(text, at):
    """Return the index behind the separator, the comment or the word that begins at an index."""
    if text[at] in " \n\t()":
        return at + 1
    ends = "\n" if text[at] == ";" else " \n\t();"
    while at < len(text) and text[at] not in ends:
        at += 1
    return at


def read_numeral(word):
    """Return the value of a numeral, or None if the word is not a numeral."""
    return int(word) if is_numeral(word) else None


def read_program(text):
    """Return the tree of a text."""
    forms = nest(split_words(text), len(text))
    datas, exceptions, functions = read_declarations(forms)
    if not ends_in_main(functions) or count_expressions(functions) > MAX_NODES:
        raise TextError(len(text))
    return (tuple(datas), tuple(exceptions), tuple(functions))


def write_program(tree):
    """Return the text of a tree."""
    datas, exceptions, functions = tree
    lines = [data_text(data) for data in datas]
    lines.extend([exception_text(name) for name in exceptions[len(FIRST_EXCEPTIONS):]])
    lines.extend([function_text(function) for function in functions])
    return "".join([line + "\n" for line in lines])


def same_tree(first, second):
    """Return True if two trees are equal except for the indexes, otherwise False."""
    if not is_tree(first) or not is_tree(second):
        return first == second
    if first[:2] != second[:2] or len(first[2]) != len(second[2]):
        return False
    return all([_same_function(one, other) for one, other in zip(first[2], second[2])])


def _same_function(first, second):
    if not is_function(first) or not is_function(second):
        return first == second
    name, _, parameters, result, body = first
    if (name, parameters, result) != (second[0], second[2], second[3]):
        return False
    return _same_expression(body, second[4])


def _same_expression(first, second):
    # A list of pairs in the place of calls: a value that is no right tree may be deep.
    pending = [(first, second)]
    while pending:
        one, other = pending.pop()
        if not is_expression(one) or not is_expression(other):
            if one != other:
                return False
        elif _outer_parts(one) != _outer_parts(other):
            return False
        else:
            pending.extend(list(zip(inner_expressions(one), inner_expressions(other))))
    return True


def _outer_parts(expression):
    """Return what an expression is, except for its index, its kids and the bodies of its arms."""
    op, _, info, kids, arms = expression
    return (op, info, len(kids), [(name, variables) for name, variables, _ in arms])
