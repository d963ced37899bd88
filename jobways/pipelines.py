"""A pipeline: its jobs, its instances, and what each instance needs."""

from jobways.combinations import combinations_of


class Instance:
    """A job with one of its combinations."""

    def __init__(self, job, pairs):
        self.job = job
        self.pairs = pairs


class Pipeline:
    """Jobs in order and the names of flags in order, with what follows from them.

    needed has for each instance the numbers of those that it needs, above of those that stand above it.
    """

    def __init__(self, jobs, flags):
        self.jobs = jobs
        self.flags = flags
        self.instances = instances_of(jobs)
        self.needed = [needed_by(self.instances, instance) for instance in self.instances]
        self.above = [reached(self.needed, number) for number in range(len(self.instances))]


def instances_of(jobs):
    instances = []
    for job in jobs:
        for pairs in combinations_of(job):
            instances.append(Instance(job, pairs))
    return instances


def agree(pairs, others):
    """Tell if what both combinations name has the same value in both."""
    told = dict(others)
    return all([told.get(name, value) == value for name, value in pairs])


def is_needed(instance, other):
    if other.job.name in instance.job.needed:
        return True
    return other.job.name in instance.job.beside and agree(instance.pairs, other.pairs)


def needed_by(instances, instance):
    return [number for number, other in enumerate(instances) if is_needed(instance, other)]


def reached(links, start):
    """Give all that is reached from start over one or more links, rising."""
    found = list(links[start])
    place = 0
    while place < len(found):
        further = links[found[place]]
        for number in further:
            if number not in found:
                found.append(number)
        place += 1
    return sorted(found)


def label_of(instance):
    if len(instance.pairs) == 0:
        return instance.job.name
    return instance.job.name + " (" + ", ".join([value for name, value in instance.pairs]) + ")"
