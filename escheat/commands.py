"""The lines that a session reads and writes."""

from escheat.errors import CommandError
from escheat.names import DIGITS

NUMBER_DIGITS = 12


def read_numbers(line, words):
    """Return the list of the numbers that these words of a line are, or raise CommandError."""
    if not all([_is_number(word) for word in words]):
        raise CommandError(line)
    return [int(word) for word in words]


def _is_number(word):
    digits = word.removeprefix("-")
    if not 1 <= len(digits) <= NUMBER_DIGITS or not all([digit in DIGITS for digit in digits]):
        return False
    # Zero has one form; no other number begins with it.
    return digits[0] != "0" or word == "0"


def function_line(function):
    """Return the answer about the regions of a function of a region program."""
    name, formals, touch, _, _, body = function
    return f"{name} formals {formals} touched {len(touch)} begun {_count_begun(body)}"


def _count_begun(body):
    """Return the number of the new steps of a block, with those of all blocks inside."""
    pending = [body]
    begun = 0
    while pending:
        _, steps, _ = pending.pop()
        begun += len([step for step in steps if step[0] == "new"])
        pending.extend([block for step in steps for block in step[7]])
    return begun


def result_lines(metered):
    """Return the list of the answers about a metered run."""
    (fault, value, outs, ticks), peak, left, _ = metered
    ending = f"answer {value}" if fault is None else " ".join([str(part) for part in fault])
    return [f"out {number}" for number in outs] + [ending, f"ticks {ticks} peak {peak} left {left}"]


def event_line(event):
    """Return the answer about an event."""
    what, instance, words, held = event
    if what in ("new", "touch"):
        return f"{what} {instance}"
    return f"{what} {instance} {words} held {held}"
