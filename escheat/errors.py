"""The errors that the program raises."""


class EscheatError(ValueError):
    """The base class of all errors of the program. It is not raised itself."""


class TextError(EscheatError):
    """A text is not the text of a program, because of what stands at an index."""

    def __init__(self, at):
        super().__init__(f"the text is wrong at index {at}")
        self.at = at


class KindError(EscheatError):
    """A tree is refused, because of the expression with an index."""

    def __init__(self, at):
        # Without the index: a tree's index is of any size, and Python refuses to write very long ones.
        super().__init__("the kinds of the tree are wrong")
        self.at = at


class FlatError(EscheatError):
    """A value is not a flat program, because of what stands at a path."""

    def __init__(self, path):
        super().__init__(f"the flat program is wrong at path {path}")
        self.path = path


class RegionError(EscheatError):
    """A region program is refused at a path for a reason."""

    def __init__(self, path, reason):
        super().__init__(f"the region program is wrong at path {path}: {reason}")
        self.path = path
        self.reason = reason


class CodeError(EscheatError):
    """Code is not well formed, or there is no code for a program."""


class CertificateError(EscheatError):
    """The certificate with a number is refused for a reason."""

    def __init__(self, number, reason):
        super().__init__(f"certificate {number} is refused: {reason}")
        self.number = number
        self.reason = reason


class StoreError(EscheatError):
    """A store cannot do what it is asked to, for a reason."""

    def __init__(self, reason):
        super().__init__(f"the store refuses: {reason}")
        self.reason = reason


class CommandError(EscheatError):
    """A line is not a command that a session can answer."""

    def __init__(self, line):
        super().__init__(f"no command: {line}")
        self.line = line
