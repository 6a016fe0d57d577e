"""The system: texts that are built and run, and sessions that answer lines."""

from escheat.bounds import bound, find
from escheat.building import built_parts
from escheat.commands import event_line, function_line, read_numbers, result_lines
from escheat.errors import CertificateError, CommandError
from escheat.limits import MAX_FUEL
from escheat.machine import run


def build(text):
    """Return the tree with kinds, the flat program, the region program and the code of a text.

    Raise TextError, KindError or FlatError if the text has none.
    """
    return built_parts(text)


def run_text(text, arguments, *, fuel=MAX_FUEL):
    """Return the metered run of the code of a text, or raise as build does."""
    return run(build(text)[3], arguments, fuel=fuel)


def report(text, certificates, arguments, *, fuel=MAX_FUEL):
    """Return the metered run of a text and the words that certificates state, or raise as build and bound do."""
    _, _, placed, code = build(text)
    words = bound(placed, certificates, arguments)
    return (run(code, arguments, fuel=fuel), words)


class Session:
    """A built program, or none, and all answers that were given."""

    def __init__(self):
        self.parts = None
        self.given = []

    def load(self, text):
        """Build a text, whose program takes the place of the one before; or raise as build does."""
        self.parts = build(text)

    def answer(self, line):
        """Return the list of the answers to a line, or raise CommandError."""
        # Where spaces stand together or at an end, there is an empty word, which is neither a command nor a number.
        word, *others = line.split(" ")
        action = COMMANDS.get(word)
        if action is None:
            raise CommandError(line)
        numbers = read_numbers(line, others)
        if len(numbers) < LEAST_NUMBERS[word] or word == "regions" and numbers or self.parts is None:
            raise CommandError(line)
        answers = action(self.parts, numbers)
        self.given.extend(answers)
        return answers

    @property
    def loaded(self):
        """Tell whether the session holds a program."""
        return self.parts is not None

    def __len__(self):
        return len(self.given)

    def __iter__(self):
        yield from self.given


def _answer_regions(parts, numbers):
    return [function_line(function) for function in parts[2][2]]


def _answer_run(parts, numbers):
    fuel, *arguments = numbers
    return result_lines(run(parts[3], arguments, fuel=fuel))


def _answer_events(parts, numbers):
    fuel, *arguments = numbers
    return [event_line(event) for event in run(parts[3], arguments, fuel=fuel)[3]]


def _answer_bound(parts, numbers):
    try:
        words = bound(parts[2], find(parts[2]), numbers)
    except CertificateError:
        return ["no bound"]
    return [f"bound {words}"]


# What answers the lines that begin with a word, and how many numbers follow at least.
COMMANDS = {"regions": _answer_regions, "run": _answer_run, "events": _answer_events, "bound": _answer_bound}
LEAST_NUMBERS = {"regions": 0, "run": 1, "events": 1, "bound": 0}
