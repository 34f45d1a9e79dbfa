"""Pairs asks and jobs up, or shows for which of them there are too few (points 11 and 12 of the document)."""

from gapcalls.chances import can_come_of_more, can_lead, can_lead_to_more
from gapcalls.rows import is_rising


class Chart:
    """Which asks may have led to which jobs, and which are tied: in each whole telling those must stand."""

    def __init__(self, gaps):
        gates = gaps.town[1]
        self.jobs_of = {ask: [job for job in gaps.jobs if can_lead(gaps, ask, job)] for ask in gaps.asks}
        self.asks_of = turned(self.jobs_of, gaps.jobs)
        self.tied_asks = {ask: True for ask in gaps.asks if not can_lead_to_more(gaps, ask)}
        self.tied_jobs = {
            job: True for job in gaps.jobs if job[0] not in gates and not can_come_of_more(gaps, job)}


def turned(jobs_of, jobs):
    asks_of = {job: [] for job in jobs}
    for ask in jobs_of:
        for job in jobs_of[ask]:
            asks_of[job].append(ask)
    return asks_of


def hand_over(end, reached_by, mates, mates_back):
    """Mates each thing on the way back from end with what it reached, in the place of what it had."""
    holder = mates_back.get(end)
    if holder is not None:
        del mates[holder]
    other = end
    while other is not None:
        one = reached_by[other]
        had = mates.get(one)
        mates[one] = other
        mates_back[other] = one
        other = had


def find_mate(start, chances, mates, mates_back, tied):
    """Finds a mate for start, a tied thing without one; tells [], or those that are too many where there is none.

    The others may be mated anew, but none that is tied loses its mate, nor does any of the other side.
    """
    seekers = [start]
    reached_by = {}
    at = 0
    while at < len(seekers):
        one = seekers[at]
        at += 1
        for other in chances[one]:
            if other in reached_by:
                continue
            reached_by[other] = one
            holder = mates_back.get(other)
            if holder is None or holder not in tied:
                hand_over(other, reached_by, mates, mates_back)
                return []
            seekers.append(holder)
    # All that the seekers may have are held by seekers, and start holds none: there is one too few.
    return sorted(seekers)


def pair_up(chart):
    """("whole", pairs) or ("short", side, some) of a chart."""
    jobs_by_ask = {}
    asks_by_job = {}
    for ask in sorted(chart.tied_asks):
        some = find_mate(ask, chart.jobs_of, jobs_by_ask, asks_by_job, chart.tied_asks)
        if some:
            return ("short", "asks", some)
    # Each ask that has a mate keeps one from here on, so pairing up the jobs behind the asks leaves both paired up.
    for job in sorted(chart.tied_jobs):
        if job not in asks_by_job:
            some = find_mate(job, chart.asks_of, asks_by_job, jobs_by_ask, chart.tied_jobs)
            if some:
                return ("short", "jobs", some)
    return ("whole", sorted(jobs_by_ask.items()))


def are_pairs_whole(chart, pairs):
    jobs_by_ask = {ask: job for ask, job in pairs}
    asks_by_job = {job: ask for ask, job in pairs}
    if not is_rising(pairs) or len(jobs_by_ask) < len(pairs) or len(asks_by_job) < len(pairs):
        return False
    if not all(job in chart.jobs_of.get(ask, []) for ask, job in pairs):
        return False
    return all(ask in jobs_by_ask for ask in chart.tied_asks) and all(job in asks_by_job for job in chart.tied_jobs)


def are_too_many(some, chances, tied):
    if not is_rising(some) or not all(one in tied for one in some):
        return False
    return len({other for one in some for other in chances[one]}) < len(some)


def are_short(chart, side, some):
    if side == "asks":
        return are_too_many(some, chart.jobs_of, chart.tied_asks)
    return side == "jobs" and are_too_many(some, chart.asks_of, chart.tied_jobs)
