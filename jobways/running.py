"""A run of a pipeline: where each instance stands, and what follows when some have ended."""

from jobways.conditions import holds

WAITS = 0
RUNS = 1
PASSED = 2
FAILED = 3
LEFT_OUT = 4
FAILED_SOFT = 5


class Run:
    """A run that is just begun: all wait, nothing has been looked at yet.

    watched are the numbers of the instances that the run is about, rising; all others wait for ever.
    """

    def __init__(self, pipeline, flags, watched):
        self.pipeline = pipeline
        self.watched = watched
        self.flags_up = names_up(pipeline.flags, flags)
        self.stands = [WAITS for instance in pipeline.instances]

    def is_due(self, number):
        """Tell if an instance waits for nothing any more, so that its condition is looked at."""
        if self.stands[number] != WAITS:
            return False
        return all([self.stands[other] >= PASSED for other in self.pipeline.needed[number]])

    def condition_holds(self, number):
        needed = self.pipeline.needed[number]
        above = self.pipeline.above[number]
        simple = {
            "ok": all([self.stands[other] in (PASSED, FAILED_SOFT) for other in needed]),
            "bad": any([self.stands[other] == FAILED for other in above]),
            "always": True,
        }
        instance = self.pipeline.instances[number]
        return holds(instance.job.condition, simple, instance.pairs, self.flags_up)

    def look_at_due(self):
        """Look at each instance that is due once; give those that were, rising."""
        due = [number for number in self.watched if self.is_due(number)]
        for number in due:
            self.stands[number] = RUNS if self.condition_holds(number) else LEFT_OUT
        return due

    def move_on(self):
        """Look at instances until none is due; give those that were looked at, rising."""
        moved = []
        due = self.look_at_due()
        while len(due) > 0:
            moved.extend(due)
            due = self.look_at_due()
        return sorted(moved)

    def end(self, number, passed):
        """Let an instance that runs end; what follows from it is not looked at yet."""
        if passed:
            self.stands[number] = PASSED
        elif self.pipeline.instances[number].job.soft:
            self.stands[number] = FAILED_SOFT
        else:
            self.stands[number] = FAILED

    def running(self):
        return [number for number in self.watched if self.stands[number] == RUNS]

    def go_to_end(self, failures):
        """Let all that run end, until none runs; those fail whose bit is 1 in failures."""
        self.move_on()
        running = self.running()
        while len(running) > 0:
            for number in running:
                self.end(number, not has_bit(failures, number))
            self.move_on()
            running = self.running()

    def conclusion(self):
        if any([stand in (WAITS, RUNS) for stand in self.stands]):
            return 0
        return 2 if FAILED in self.stands else 1

    def news(self, moved):
        """Give the conclusion, how many of the moved run, these, then those that were left out."""
        begun = [number for number in moved if self.stands[number] == RUNS]
        left_out = [number for number in moved if self.stands[number] == LEFT_OUT]
        return [self.conclusion(), len(begun)] + begun + left_out

    def report(self):
        return [self.conclusion()] + self.stands


def whole_run(pipeline, flags):
    """Give a run that is about all instances."""
    return Run(pipeline, flags, list(range(len(pipeline.instances))))


def has_bit(number, place):
    return (number >> place) & 1 == 1


def names_up(names, flags):
    """Give the names of the flags whose bit is 1."""
    return [name for place, name in enumerate(names) if has_bit(flags, place)]
