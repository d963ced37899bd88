"""The combinations of a job: rows of pairs, a pair being a name and a value."""

from jobways.jobs import axis_names


def axis_rows(axes):
    """Give all ways to take one value of each axis, the last axis's value changing fastest."""
    rows = [[]]
    for name, choices in axes:
        longer = []
        for row in rows:
            for choice in choices:
                longer.append(row + [(name, choice)])
        rows = longer
    return rows


def has_all(row, pairs):
    return all([pair in row for pair in pairs])


def is_lessened(row, lesses):
    return any([has_all(row, less) for less in lesses])


def first_rows(job):
    if len(job.axes) == 0 and len(job.mores) > 0:
        return []
    return [row for row in axis_rows(job.axes) if not is_lessened(row, job.lesses)]


def with_pair(added, pair):
    """Give the added pairs with one more: in the place of one with the same name, else behind."""
    names = [other[0] for other in added]
    if pair[0] not in names:
        return added + [pair]
    return [pair if other[0] == pair[0] else other for other in added]


def with_pairs(added, pairs):
    grown = added
    for pair in pairs:
        grown = with_pair(grown, pair)
    return grown


def combinations_of(job):
    firsts = first_rows(job)
    added = [[] for row in firsts]
    behind = []
    names = axis_names(job)
    for more in job.mores:
        asked = [pair for pair in more if pair[0] in names]
        others = [pair for pair in more if pair[0] not in names]
        fitting = [has_all(row, asked) for row in firsts]
        if any(fitting):
            added = [with_pairs(pairs, others) if fits else pairs for pairs, fits in zip(added, fitting)]
        else:
            behind.append(list(more))
    return [row + pairs for row, pairs in zip(firsts, added)] + behind
