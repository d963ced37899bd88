"""What a text tells: jobs, and the draft that they are gathered in line by line."""

from jobways.conditions import OK_ALONE


class Job:
    """What is told of one job.

    axes are tuples of a name and a list of values; lesses and mores are lists of pairs; needed and beside are
    names of jobs; condition is a condition's steps.
    """

    def __init__(self, name, line):
        self.name = name
        self.line = line
        self.axes = []
        self.lesses = []
        self.mores = []
        self.needed = []
        self.beside = []
        self.condition = list(OK_ALONE)
        self.has_when = False
        self.soft = False


class Draft:
    """What the lines of a text have told so far.

    links are the lines with needs and beside: tuples of the line's number and the names. fault is the number of
    the first fault, 0 while there is none.
    """

    def __init__(self):
        self.jobs = []
        self.flags = []
        self.links = []
        self.fault = 0
        self.fault_line = 0


def axis_names(job):
    return [axis[0] for axis in job.axes]
