"""Pairs asks and jobs up, or shows for which of them there are too few (points 11 and 12 of the document)."""

from gapcalls.chances import can_come_of_more, can_lead, can_lead_to_more
from gapcalls.errors import Short
from gapcalls.rows import is_rising


class Chart:
    """Which asks may have led to which jobs, and which are tied: in each whole telling those must stand.

    A chart is never changed: what is barred or put makes a new one, which shares what stayed as it was.
    """

    def __init__(self, jobs_of, asks_of, tied_asks, tied_jobs):
        self.jobs_of = jobs_of
        self.asks_of = asks_of
        self.tied_asks = tied_asks
        self.tied_jobs = tied_jobs


def chart_of(gaps):
    gates = gaps.town[1]
    jobs_of = {ask: [job for job in gaps.jobs if can_lead(gaps, ask, job)] for ask in gaps.asks}
    tied_asks = {ask: True for ask in gaps.asks if not can_lead_to_more(gaps, ask)}
    tied_jobs = {job: True for job in gaps.jobs if job[0] not in gates and not can_come_of_more(gaps, job)}
    return Chart(jobs_of, turned(jobs_of, gaps.jobs), tied_asks, tied_jobs)


def turned(jobs_of, jobs):
    asks_of = {job: [] for job in jobs}
    for ask in jobs_of:
        for job in jobs_of[ask]:
            asks_of[job].append(ask)
    return asks_of


def without_key(table, key):
    return {one: table[one] for one in table if one != key}


def without_thing(chances, keys, thing):
    """The chances, those of the keys without the thing."""
    fewer = {one: chances[one] for one in chances}
    for key in keys:
        fewer[key] = [one for one in chances[key] if one != thing]
    return fewer


def barred(chart, pairs):
    """The chart, were in each of the pairs the ask barred from leading to the job."""
    jobs_of, asks_of = chart.jobs_of, chart.asks_of
    for ask, job in pairs:
        jobs_of = without_thing(jobs_of, [ask], job)
        asks_of = without_thing(asks_of, [job], ask)
    return Chart(jobs_of, asks_of, chart.tied_asks, chart.tied_jobs)


def put(chart, ask, job):
    """The chart of the others, were this ask put to have led to this job."""
    jobs_of = without_thing(chart.jobs_of, chart.asks_of[job], job)
    asks_of = without_thing(chart.asks_of, chart.jobs_of[ask], ask)
    return Chart(without_key(jobs_of, ask), without_key(asks_of, job),
                 without_key(chart.tied_asks, ask), without_key(chart.tied_jobs, job))


def hand_over(end, reached_by, mates, mates_back):
    """Mates each thing on the way back from end with what it reached, in the place of what it had."""
    holder = mates_back.get(end)
    if holder is not None:
        del mates[holder]
    other = end
    while other is not None:
        one = reached_by[other]
        had = mates.get(one)
        mates[one] = other
        mates_back[other] = one
        other = had


def find_mate(start, chances, mates, mates_back, tied):
    """Finds a mate for start, a tied thing without one; tells [], or those that are too many where there is none.

    The others may be mated anew, but none that is tied loses its mate, nor does any of the other side.
    """
    seekers = [start]
    reached_by = {}
    at = 0
    while at < len(seekers):
        one = seekers[at]
        at += 1
        for other in chances[one]:
            if other in reached_by:
                continue
            reached_by[other] = one
            holder = mates_back.get(other)
            if holder is None or holder not in tied:
                hand_over(other, reached_by, mates, mates_back)
                return []
            seekers.append(holder)
    # All that the seekers may have are held by seekers, and start holds none: there is one too few.
    return sorted(seekers)


def find_mates(chances, mates, mates_back, tied):
    """Finds mates for all that are tied; tells [], or those that are too many where there are none."""
    for one in tied:
        if one not in mates:
            some = find_mate(one, chances, mates, mates_back, tied)
            if some:
                return some
    return []


def pair_up_from(chart, pairs):
    """As pair_up, from pairs of the chart on, each ask and each job at most once: so little is looked for anew."""
    jobs_by_ask = {ask: job for ask, job in pairs}
    asks_by_job = {job: ask for ask, job in pairs}
    some = find_mates(chart.jobs_of, jobs_by_ask, asks_by_job, chart.tied_asks)
    if some:
        return ("short", "asks", some)
    # Each ask that has a mate keeps one from here on, so pairing up the jobs behind the asks leaves both paired up.
    some = find_mates(chart.asks_of, asks_by_job, jobs_by_ask, chart.tied_jobs)
    if some:
        return ("short", "jobs", some)
    return ("whole", sorted(jobs_by_ask.items()))


def pair_up(chart):
    """("whole", pairs) or ("short", side, some) of a chart."""
    return pair_up_from(chart, [])


def need_whole(chart):
    """The pairs of a whole telling; where there is none, Short is raised."""
    told = pair_up(chart)
    if told[0] == "short":
        raise Short(told[1], told[2])
    return told[1]


def are_pairs_of(chart, pairs):
    """Whether pairs are rising ones of the chart, each ask and each job in them at most once."""
    if not all(job in chart.jobs_of.get(ask, []) for ask, job in pairs) or not is_rising(pairs):
        return False
    return len({ask for ask, job in pairs}) == len(pairs) and len({job for ask, job in pairs}) == len(pairs)


def are_pairs_whole(chart, pairs):
    if not are_pairs_of(chart, pairs):
        return False
    asks = {ask: True for ask, job in pairs}
    jobs = {job: True for ask, job in pairs}
    return all(ask in asks for ask in chart.tied_asks) and all(job in jobs for job in chart.tied_jobs)


def are_too_many(some, chances, tied):
    if not all(one in tied for one in some) or not is_rising(some):
        return False
    return len({other for one in some for other in chances[one]}) < len(some)


def are_short(chart, side, some):
    if side == "asks":
        return are_too_many(some, chart.jobs_of, chart.tied_asks)
    return side == "jobs" and are_too_many(some, chart.asks_of, chart.tied_jobs)
