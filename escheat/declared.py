"""What a tree declares: whether the declarations are valid, and what they tell the checks of the bodies."""

from escheat.kind_forms import INT, is_valid_kind, numbered_kind
from escheat.limits import MAX_CONSTRUCTORS, MAX_DEPTH, MAX_NODES, MAX_PARTS
from escheat.names import FIRST_EXCEPTIONS, is_great_name, is_small_name
from escheat.shapes import ends_in_main, inner_expressions, is_expression, is_function, is_tree, is_tuple_of


def declarations_hold(value):
    """Tell whether a value has the form of a tree, and its declarations are valid."""
    if not is_tree(value):
        return False
    datas, exceptions, functions = value
    if not _datas_hold(datas) or not _exceptions_hold(exceptions):
        return False
    return _functions_hold(functions, {data[0]: True for data in datas}) and _bodies_hold(functions)


def _datas_hold(datas):
    names = {}
    taken = {}
    for data in datas:
        if not is_tuple_of(data, 2) or not is_small_name(data[0]) or data[0] in names:
            return False
        names[data[0]] = True
        constructors = data[1]
        if not isinstance(constructors, tuple) or not 1 <= len(constructors) <= MAX_CONSTRUCTORS:
            return False
        for constructor in constructors:
            if not _constructor_holds(constructor, names) or constructor[0] in taken:
                return False
            taken[constructor[0]] = True
    return True


def _constructor_holds(value, names):
    """Tell whether a value is a constructor whose fields name only data kinds with these names."""
    if not is_tuple_of(value, 2) or not is_great_name(value[0]):
        return False
    fields = value[1]
    if not isinstance(fields, tuple) or len(fields) > MAX_PARTS:
        return False
    return all([is_valid_kind(field, names) for field in fields])


def _exceptions_hold(exceptions):
    first = len(FIRST_EXCEPTIONS)
    if exceptions[:first] != FIRST_EXCEPTIONS:
        return False
    return _are_small_names(exceptions[first:])


def _are_small_names(values):
    """Tell whether the values are small names, all different."""
    return all([is_small_name(value) for value in values]) and len(set(values)) == len(values)


def _functions_hold(functions, names):
    if not all([_function_holds(function, names) for function in functions]):
        return False
    return _are_small_names([function[0] for function in functions]) and ends_in_main(functions)


def _function_holds(value, names):
    """Tell whether a value is a function with a valid head; its body is not looked at."""
    if not is_function(value):
        return False
    _, _, parameters, result, _ = value
    if len(parameters) > MAX_PARTS or not _are_small_names([name for name, _ in parameters]):
        return False
    kinds = [kind for _, kind in parameters]
    return all([is_valid_kind(kind, names) for kind in [*kinds, result]])


def _bodies_hold(functions):
    pending = [(function[4], 1) for function in functions]
    count = 0
    while pending:
        value, level = pending.pop()
        count += 1
        if count > MAX_NODES or level > MAX_DEPTH or not _expression_holds(value):
            return False
        pending.extend([(inner, level + 1) for inner in inner_expressions(value)])
    return True


def _expression_holds(value):
    """Tell whether a value has the form of an expression, and the variables that it binds are names."""
    if not is_expression(value):
        return False
    op, _, info, _, arms = value
    for _, variables, _ in arms:
        if not isinstance(variables, tuple) or not all([is_small_name(variable) for variable in variables]):
            return False
    if op == "let":
        return is_small_name(info)
    if op == "fn":
        return is_tuple_of(info, 2) and is_small_name(info[0])
    return op != "raise" or is_tuple_of(info, 2)


class Declared:
    """The declarations of a tree by their names, with the numbers of data declarations in all kinds.

    The attributes are these:
    - numbers: the number of each data declaration.
    - datas: the data declarations.
    - constructors: the numbers of the data declaration and of the constructor, and the kinds of the fields.
    - constructor_patterns: for each data declaration, its constructors, as the arms of a case name them:
      the number and the kinds of the variables.
    - exception_patterns: the exceptions, in the same way.
    - functions: the number, the kinds of the parameters and the result of each function that may be called yet.
    """

    def __init__(self, tree):
        datas, exceptions, _ = tree
        self.numbers = {data[0]: number for number, data in enumerate(datas)}
        self.datas = tuple([self.numbered_data(data) for data in datas])
        self.constructors = {}
        self.constructor_patterns = []
        for number, (_, constructors) in enumerate(self.datas):
            patterns = {}
            for index, (name, fields) in enumerate(constructors):
                patterns[name] = (index, fields)
                self.constructors[name] = (number, index, fields)
            self.constructor_patterns.append(patterns)
        self.exception_patterns = {name: (number, (INT,)) for number, name in enumerate(exceptions)}
        self.functions = {}

    def numbered(self, kind):
        """Return a valid kind of the tree with the numbers of data declarations."""
        return numbered_kind(kind, self.numbers)

    def numbered_data(self, data):
        """Return a data declaration with the numbers of data declarations in the kinds of its fields."""
        name, constructors = data
        return (name, tuple([self.numbered_constructor(constructor) for constructor in constructors]))

    def numbered_constructor(self, constructor):
        """Return a constructor with the numbers of data declarations in the kinds of its fields."""
        name, fields = constructor
        return (name, tuple([self.numbered(field) for field in fields]))

    def is_written_kind(self, value):
        """Tell whether a value is a valid kind of the tree."""
        return is_valid_kind(value, self.numbers)

    def add_function(self, name, kinds, result):
        """Let a function be called from now on."""
        self.functions[name] = (len(self.functions), kinds, result)
