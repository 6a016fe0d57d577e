"""Runs of region programs, which keep account of the words of each instance."""

from escheat.running import Cell, FlatRun
from escheat.steps import free_variables


class Meter:
    """The instances of a run, by their numbers, and what has been done to them.

    The words of an instance are None when it has ended.
    """

    def __init__(self):
        self.words = []
        self.events = []
        self.total = 0
        self.peak = 0

    def is_held(self, instance):
        """Tell whether an instance has not ended."""
        return self.words[instance] is not None

    def begin(self):
        """Begin an instance and return its number."""
        self.words.append(0)
        self.note("new", len(self.words) - 1, 0)
        return len(self.words) - 1

    def add_cell(self, instance, words):
        """Make a cell in an instance that has not ended."""
        self.words[instance] += words
        self.total += words
        self.peak = max(self.peak, self.total)
        self.note("cell", instance, words)

    def end(self, instance):
        """End an instance that has not ended."""
        words = self.words[instance]
        self.words[instance] = None
        self.total -= words
        self.note("end", instance, words)

    def note(self, what, instance, words):
        """Append an event."""
        self.events.append((what, instance, words, self.total))


class MeteredRun(FlatRun):
    """A run of a region program.

    The handles of a frame are a dict from the region to a pair: the instance, and whether the handle owns it.
    """

    def __init__(self, program, fuel):
        super().__init__(program, fuel)
        self.meter = Meter()

    def metered(self):
        """Return the metered run."""
        return (self.outcome.result(), self.meter.peak, self.meter.total, tuple(self.meter.events))

    def begin_region(self, frame, region):
        """Begin an instance, which the frame owns."""
        frame.handles[region] = (self.meter.begin(), True)

    def end_region(self, frame, region):
        """Remove a handle of a frame, if there is one, and end its instance if the handle owned it."""
        if region in frame.handles:
            instance, owned = frame.handles.pop(region)
            if owned:
                self.meter.end(instance)

    def give_cell(self, frame, step, parts):
        """Make a cell for a step, which has it as its value, or end the run if there is no place for it."""
        instance, _ = frame.handles.get(step[5], (None, False))
        if instance is None or not self.meter.is_held(instance):
            self.outcome.fault = ("touch",)
        else:
            self.meter.add_cell(instance, _words_of_cell(step, parts))
            self.give(Cell(parts, instance))

    def touch(self, cell):
        """Read or write a cell and return True, or end the run and return False if its instance has ended."""
        if not self.meter.is_held(cell.instance):
            self.outcome.fault = ("touch",)
            return False
        self.meter.note("touch", cell.instance, 0)
        return True

    def handles_at_call(self, frame, step):
        """Return the handles of the function that a call step of a frame calls, and give up those handed over."""
        handles = {}
        for formal in self.functions[step[4]][2]:
            region, mode = step[6][formal]
            if region in frame.handles:
                instance, owned = frame.handles[region]
                handles[formal] = (instance, owned and mode == "last")
                if owned and mode == "last":
                    del frame.handles[region]
        return handles

    def handles_of_closure(self, closure):
        """Return the handle of the closure's region, which every frame of a call of it has."""
        maker, _ = closure.parts
        return {maker[5]: (closure.instance, False)}

    def catch(self, frame, kept):
        """End the instances that a frame owns, but not those of the regions that its handle step keeps."""
        for instance, region in _owned_handles(frame):
            if region not in kept:
                del frame.handles[region]
                self.meter.end(instance)

    def leave_frame(self, frame):
        """End the instances that a frame owns which an exception leaves."""
        for instance, _ in _owned_handles(frame):
            self.meter.end(instance)


def _words_of_cell(step, parts):
    """Return the words of the cell that a step makes of these parts."""
    if step[0] == "fn":
        return 2 + len(free_variables(step[7][0]))
    return len(parts) + 1 if step[0] == "array" else len(parts)


def _owned_handles(frame):
    """Return the list of the pairs of an instance that a frame owns and of its region, in ascending order."""
    return sorted([(instance, region) for region, (instance, owned) in frame.handles.items() if owned])
