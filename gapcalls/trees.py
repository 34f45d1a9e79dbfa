"""The trees of jobs in a telling, and what stands above what over all tellings (points 17 and 18 of the document)."""

from gapcalls.errors import NoJob
from gapcalls.gaps import gaps_of
from gapcalls.tellings import MOST_TELLINGS, all_of


def made_in(gaps, ask):
    """The job in which a known ask was made."""
    row = gaps.ask_rows[ask]
    return (row[1], row[3])


def jobs_of_trees(gaps):
    """The jobs that are known or in which a known ask was made, rising."""
    return sorted({made_in(gaps, ask) for ask in gaps.ask_rows} | set(gaps.job_rows))


def uppers_of(gaps, telling):
    """From each job that stands under one to that one."""
    return {job: made_in(gaps, ask) for ask, job in telling}


def all_uppers(uppers, job):
    """All jobs above the job, from the next one up."""
    told = []
    upper = uppers.get(job)
    while upper is not None:
        told.append(upper)
        upper = uppers.get(upper)
    return told


def above(town, rows, telling, job):
    """The job above this one in a telling, or None."""
    return uppers_of(gaps_of(town, rows), telling).get(job)


def all_above(town, rows, telling, job):
    """All jobs above this one in a telling, from the next one up."""
    return all_uppers(uppers_of(gaps_of(town, rows), telling), job)


def under(town, rows, telling, job):
    """The jobs under this one at once in a telling, sorted."""
    uppers = uppers_of(gaps_of(town, rows), telling)
    return sorted([lower for lower in uppers if uppers[lower] == job])


def forest(town, rows, telling):
    """A list of (job, deep) of all jobs of the trees: each top, sorted, with all under it behind it, likewise."""
    gaps = gaps_of(town, rows)
    uppers = uppers_of(gaps, telling)
    jobs = jobs_of_trees(gaps)
    lowers = {job: [] for job in jobs}
    for job in jobs:
        if job in uppers:
            lowers[uppers[job]].append((job, len(all_uppers(uppers, job))))
    told = []
    left = [(job, 0) for job in jobs[::-1] if job not in uppers]
    while left:
        job, deep = left.pop()
        told.append((job, deep))
        left.extend(lowers[job][::-1])
    return told


def stands_above(town, rows, one, other):
    """("always",), ("never",) or ("sometimes", telling, telling): whether the one job stands above the other."""
    gaps = gaps_of(town, rows)
    jobs = jobs_of_trees(gaps)
    if one not in jobs or other not in jobs:
        raise NoJob("this job is not known, nor was a known ask made in it")
    having = []
    lacking = []
    for telling in all_of(gaps, MOST_TELLINGS):
        if one in all_uppers(uppers_of(gaps, telling), other):
            having.append(telling)
        else:
            lacking.append(telling)
    if having and lacking:
        return ("sometimes", having[0], lacking[0])
    return ("always",) if having else ("never",)
