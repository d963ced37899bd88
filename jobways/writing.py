"""How a pipeline is written."""

from jobways.conditions import condition_text, is_ok_alone


def row_of(words):
    return "  " + " ".join(words) + "\n"


def pair_words(pairs):
    return [name + "=" + value for name, value in pairs]


def job_rows(job):
    rows = ["job " + job.name + "\n"]
    for name, choices in job.axes:
        rows.append(row_of(["axis", name] + choices))
    for less in job.lesses:
        rows.append(row_of(["less"] + pair_words(less)))
    for more in job.mores:
        rows.append(row_of(["more"] + pair_words(more)))
    if len(job.needed) > 0:
        rows.append(row_of(["needs"] + job.needed))
    if len(job.beside) > 0:
        rows.append(row_of(["beside"] + job.beside))
    if not is_ok_alone(job.condition):
        rows.append(row_of(["when", condition_text(job.condition)]))
    if job.soft:
        rows.append(row_of(["soft"]))
    return rows


def pipeline_text(pipeline):
    rows = []
    for job in pipeline.jobs:
        rows.extend(job_rows(job))
    return "".join(rows)
