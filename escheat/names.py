"""Which words are names and numerals, and which values are integers."""

SMALL_LETTERS = "abcdefghijklmnopqrstuvwxyz"
GREAT_LETTERS = "ABCDEFGHIJKLMNOPQRSTUVWXYZ"
DIGITS = "0123456789"
NAME_LENGTH = 12
NUMERAL_DIGITS = 10
LEAST_INTEGER = -2147483648
GREATEST_INTEGER = 2147483647

# The exceptions of every program, by their numbers.
FIRST_EXCEPTIONS = ("Div", "Index", "Size")

# Words that are no small names.
RESERVED = (
    "data", "exception", "fun", "tuple", "get", "let", "if", "case", "fn", "apply", "ref", "deref",
    "set", "array", "at", "put", "len", "raise", "handle", "print", "seq", "add", "sub", "mul",
    "div", "rem", "equal", "less", "true", "false", "int", "bool", "unit",
)


def is_small_name(value):
    """Tell whether a value of any form is a small name."""
    tail = SMALL_LETTERS + DIGITS + "_"
    return _is_name(value, SMALL_LETTERS, tail) and value not in RESERVED


def is_great_name(value):
    """Tell whether a value of any form is a great name."""
    return _is_name(value, GREAT_LETTERS, SMALL_LETTERS + GREAT_LETTERS + DIGITS + "_")


def _is_name(value, heads, tail):
    if not isinstance(value, str) or not 1 <= len(value) <= NAME_LENGTH:
        return False
    return value[0] in heads and all([letter in tail for letter in value])


def is_exception_name(word):
    """Tell whether a word can name an exception in an expression."""
    return word in FIRST_EXCEPTIONS or is_small_name(word)


def is_numeral(word):
    """Tell whether a word is a numeral."""
    if word == "0":
        return True
    digits = word.removeprefix("-")
    if not 1 <= len(digits) <= NUMERAL_DIGITS or digits[0] == "0":
        return False
    # Not isdigit: it takes digits of other alphabets, too.
    return all([digit in DIGITS for digit in digits]) and is_language_integer(int(word))


def is_integer(value):
    """Tell whether a value of any form is an integer; a boolean is none."""
    return isinstance(value, int) and not isinstance(value, bool)


def is_language_integer(value):
    """Tell whether a value of any form is an integer of the language."""
    return is_integer(value) and LEAST_INTEGER <= value <= GREATEST_INTEGER


def is_natural(value):
    """Tell whether a value of any form is an integer of 0 or more."""
    return is_integer(value) and value >= 0
