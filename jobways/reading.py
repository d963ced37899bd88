"""Reading a text into a draft, up to its first fault."""

from jobways.combinations import combinations_of
from jobways.conditions import flags_with, steps_of
from jobways.faults import line_fault
from jobways.jobs import Draft, Job
from jobways.pipelines import reached
from jobways.words import has_wrong_byte, lines_of, pair_of, words_of

MOST_INSTANCES = 24


def take_when(draft, words):
    job = draft.jobs[-1]
    job.has_when = True
    job.condition = steps_of(words)
    draft.flags = flags_with(draft.flags, job.condition)


def take_words(draft, words, line):
    """Put what a line without a fault tells into the draft."""
    kind = words[0]
    rest = words[1:]
    if kind == "job":
        draft.jobs.append(Job(rest[0], line))
    job = draft.jobs[-1]
    if kind == "axis":
        job.axes.append((rest[0], rest[1:]))
    elif kind == "less":
        job.lesses.append([pair_of(word) for word in rest])
    elif kind == "more":
        job.mores.append([pair_of(word) for word in rest])
    elif kind == "needs":
        job.needed = rest
        draft.links.append((line, rest))
    elif kind == "beside":
        job.beside = rest
        draft.links.append((line, rest))
    elif kind == "when":
        take_when(draft, rest)
    elif kind == "soft":
        job.soft = True


def take_line(draft, row, line):
    """Take a line's bytes into the draft; give its fault, or 0."""
    if has_wrong_byte(row):
        return 1
    words = words_of(row)
    if len(words) == 0 or words[0].startswith("#"):
        return 0
    fault = line_fault(draft, words)
    if fault == 0:
        take_words(draft, words, line)
    return fault


def missing_job_line(draft):
    """Give the first line that names a job that there isn't, or 0."""
    names = [job.name for job in draft.jobs]
    for line, wanted in draft.links:
        if any([name not in names for name in wanted]):
            return line
    return 0


def places_of(wanted, names):
    return [names.index(name) for name in wanted]


def circle_line(draft):
    """Give the job line of the first job that hangs on itself, or 0. Each job that is named is there."""
    names = [job.name for job in draft.jobs]
    links = [places_of(job.needed + job.beside, names) for job in draft.jobs]
    for number, job in enumerate(draft.jobs):
        if number in reached(links, number):
            return job.line
    return 0


def crowd_line(draft):
    """Give the job line of the first job with which the instances are too many, or 0."""
    total = 0
    for job in draft.jobs:
        total += len(combinations_of(job))
        if total > MOST_INSTANCES:
            return job.line
    return 0


def note_fault(draft, line, fault):
    draft.fault_line = line
    draft.fault = fault


def look_at_whole(draft):
    """Note the lowest fault of the whole, if there's one."""
    line = missing_job_line(draft)
    if line > 0:
        note_fault(draft, line, 8)
        return
    line = circle_line(draft)
    if line > 0:
        note_fault(draft, line, 9)
        return
    line = crowd_line(draft)
    if line > 0:
        note_fault(draft, line, 10)


def drafted(text):
    """Give the draft of a text of bytes, with its first fault noted if there's one."""
    draft = Draft()
    for place, row in enumerate(lines_of(text)):
        fault = take_line(draft, row, place + 1)
        if fault > 0:
            note_fault(draft, place + 1, fault)
            return draft
    look_at_whole(draft)
    return draft
