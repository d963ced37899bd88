"""Whether an instance can run at all, and with which failures and flags."""

from jobways.running import LEFT_OUT, Run


def bit_choices(places):
    """Give all numbers whose bits stand at some of these places, rising. The places are rising."""
    choices = [0]
    for place in places:
        choices = choices + [choice + (1 << place) for choice in choices]
    return choices


def runs_with(pipeline, number, failures, flags):
    """Tell if an instance runs. Only those above it are watched: no other has a part in it."""
    run = Run(pipeline, flags, sorted(pipeline.above[number] + [number]))
    run.go_to_end(failures)
    return run.stands[number] != LEFT_OUT


def first_chance(pipeline, number):
    """Give the least failures, and of these the least flags, with which an instance runs, or None."""
    all_flags = bit_choices(list(range(len(pipeline.flags))))
    # Failures of others than those above it change nothing, so the least have none of them.
    for failures in bit_choices(pipeline.above[number]):
        for flags in all_flags:
            if runs_with(pipeline, number, failures, flags):
                return (failures, flags)
    return None
