"""What may have led to what, each ask and each job by itself (point 10 of the document)."""

from gapcalls.gaps import gaps_of


def is_not_above(one, other):
    """Of two times; None, a time of which nothing is told, bars nothing."""
    return one is None or other is None or one <= other


def latest_begin(gaps, job):
    """When a known job began, or the latest that a lost one may have."""
    if job in gaps.job_rows:
        return gaps.job_rows[job][3]
    return gaps.job_spans[job][1]


def can_lead_in_time(gaps, out, back, job):
    if job in gaps.job_rows:
        begin, end = gaps.job_rows[job][3], gaps.job_rows[job][4]
        return out <= begin and end <= back
    low, high, last = gaps.job_spans[job]
    # In a book low is never above high, nor out above back: so this is all it takes for the two spans to meet.
    meet = is_not_above(low, back) and is_not_above(out, high)
    return meet and (last is None or last < back)


def can_lead(gaps, ask, job):
    if ask in gaps.ask_rows:
        row = gaps.ask_rows[ask]
        return job[0] == row[4] and can_lead_in_time(gaps, row[5], row[6], job)
    low = gaps.ask_spans[ask][0]
    return is_not_above(low, latest_begin(gaps, job))


def can_lead_to_more(gaps, ask):
    if ask in gaps.ask_rows:
        row = gaps.ask_rows[ask]
        return row[4] in gaps.more_times and is_not_above(gaps.more_times[row[4]][1], row[6])
    return len(gaps.more_times) > 0


def can_come_of_more(gaps, job):
    begin = latest_begin(gaps, job)
    return any(is_not_above(times[0], begin) for times in gaps.more_times.values())


def may_lead(town, rows, ask, job):
    """Whether by itself the ask may have led to the job; of an ask and a job that there were."""
    return can_lead(gaps_of(town, rows), ask, job)


def more_jobs(town, rows, ask):
    """Whether the ask may have led to more jobs of an open house; of an ask that there was."""
    return can_lead_to_more(gaps_of(town, rows), ask)


def more_asks(town, rows, job):
    """Whether the job may have come of more asks of an open house; of a job that there was."""
    return can_come_of_more(gaps_of(town, rows), job)
