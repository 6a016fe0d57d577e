"""What the runs of programs have in common: fuel, outputs and results."""

from escheat.limits import MAX_FUEL


class Outcome:
    """What a run has done so far. The run goes on as long as fault is None."""

    def __init__(self, fuel):
        self.fuel = min(max(fuel, 0), MAX_FUEL)
        self.ticks = 0
        self.outs = []
        self.fault = None
        self.returned = 0

    def spend(self, ticks):
        """Spend ticks and return True, or end the run for lack of fuel and return False."""
        if self.ticks + ticks > self.fuel:
            self.ticks = self.fuel
            self.fault = ("fuel",)
            return False
        self.ticks += ticks
        return True

    def end_stuck(self):
        """End the run because what it is to do has no meaning."""
        self.fault = ("stuck",)

    def result(self):
        """Return the result of the run."""
        return (self.fault, self.returned, tuple(self.outs), self.ticks)
