"""The faults of a line, 2 to 7, one function a fault. A line is given by its words, of which it has some."""

from jobways.conditions import flags_with, is_condition, steps_of
from jobways.jobs import axis_names
from jobways.words import is_name, is_pair, is_value, pair_of

FIRST_WORDS = ("job", "axis", "less", "more", "needs", "beside", "when", "soft")
MOST_JOBS = 8
MOST_AXES = 3
MOST_VALUES = 4
MOST_LESSES = 4
MOST_MORES = 4
MOST_PAIRS = 4
MOST_NESTING = 20
MOST_FLAGS = 3


def is_unknown(draft, words):
    if words[0] not in FIRST_WORDS:
        return True
    return words[0] != "job" and len(draft.jobs) == 0


def is_formed(words):
    kind = words[0]
    rest = words[1:]
    if kind == "job":
        return len(rest) == 1 and is_name(rest[0])
    if kind == "axis":
        return len(rest) >= 2 and is_name(rest[0]) and all([is_value(word) for word in rest[1:]])
    if kind in ("less", "more"):
        return len(rest) >= 1 and all([is_pair(word) for word in rest])
    if kind in ("needs", "beside"):
        return len(rest) >= 1 and all([is_name(word) for word in rest])
    if kind == "when":
        return is_condition(rest)
    return len(rest) == 0


def has_double(words):
    return len(set(words)) < len(words)


def pair_names(words):
    return [pair_of(word)[0] for word in words]


def is_twice(draft, words):
    kind = words[0]
    rest = words[1:]
    if kind == "job":
        return rest[0] in [told.name for told in draft.jobs]
    job = draft.jobs[-1]
    if kind == "axis":
        return rest[0] in axis_names(job) or has_double(rest[1:])
    if kind in ("less", "more"):
        return has_double(pair_names(rest))
    if kind == "needs":
        return len(job.needed) > 0 or has_double(rest)
    if kind == "beside":
        return len(job.beside) > 0 or has_double(rest)
    if kind == "when":
        return job.has_when
    return job.soft


def is_condition_too_large(draft, words):
    if words.count("not") + words.count("(") > MOST_NESTING:
        return True
    return len(flags_with(draft.flags, steps_of(words))) > MOST_FLAGS


def is_too_many(draft, words):
    kind = words[0]
    rest = words[1:]
    if kind == "job":
        return len(draft.jobs) >= MOST_JOBS
    job = draft.jobs[-1]
    if kind == "axis":
        return len(job.axes) >= MOST_AXES or len(rest) - 1 > MOST_VALUES
    if kind == "less":
        return len(job.lesses) >= MOST_LESSES or len(rest) > MOST_PAIRS
    if kind == "more":
        return len(job.mores) >= MOST_MORES or len(rest) > MOST_PAIRS
    if kind == "when":
        return is_condition_too_large(draft, rest)
    return False


def names_no_axis(draft, words):
    if words[0] != "less":
        return False
    names = axis_names(draft.jobs[-1])
    return any([name not in names for name in pair_names(words[1:])])


def is_too_late(draft, words):
    if words[0] == "axis":
        job = draft.jobs[-1]
        return len(job.lesses) > 0 or len(job.mores) > 0
    return words[0] == "less" and len(draft.jobs[-1].mores) > 0


def line_fault(draft, words):
    """Give the lowest fault, 2 to 7, of a line that comes behind what the draft has, or 0."""
    if is_unknown(draft, words):
        return 2
    if not is_formed(words):
        return 3
    if is_twice(draft, words):
        return 4
    if is_too_many(draft, words):
        return 5
    if names_no_axis(draft, words):
        return 6
    if is_too_late(draft, words):
        return 7
    return 0
