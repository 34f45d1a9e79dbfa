"""Which pairs stand in some whole tellings of a chart and not in others, told from one whole telling of it.

Two whole tellings differ along rings and ways on which each ask takes over the job of the next one. A way starts with
an ask that had no job, or with a job that need not have an ask and loses it; it ends with a job that had no ask, or
with an ask that need not have a job and loses it. Through None, which stands for all that has no mate, each way is
closed to a ring. So a pair may be exchanged just where it lies on such a ring.
"""


def steps_of(chart, pairs):
    """From each ask, and from None, to those whose jobs it may take over, None for those without a mate."""
    asks_by_job = {job: ask for ask, job in pairs}
    jobs_by_ask = {ask: job for ask, job in pairs}
    steps = {ask: [asks_by_job.get(job) for job in chart.jobs_of[ask]] for ask in chart.jobs_of}
    for ask, job in pairs:
        steps[ask] = [other for other in steps[ask] if other != ask]
        if ask not in chart.tied_asks:
            steps[ask].append(None)
    jobless = [ask for ask in chart.jobs_of if ask not in jobs_by_ask]
    steps[None] = jobless + [ask for ask, job in pairs if job not in chart.tied_jobs]
    return steps


def turned_steps(steps):
    back = {one: [] for one in steps}
    for one in steps:
        for other in steps[one]:
            back[other].append(one)
    return back


def walk(start, steps, seen):
    """All that is reached from start and was not seen yet, each behind all that was first reached through it."""
    order = []
    seen[start] = True
    trail = [(start, 0)]
    while trail:
        one, at = trail.pop()
        others = steps[one]
        while at < len(others) and others[at] in seen:
            at += 1
        if at < len(others):
            seen[others[at]] = True
            trail.append((one, at + 1))
            trail.append((others[at], 0))
        else:
            order.append(one)
    return order


def parts_of(steps):
    """From each one to a number, the same for two just where each is reached from the other."""
    order = []
    seen = {}
    for one in steps:
        if one not in seen:
            order.extend(walk(one, steps, seen))
    parts = {}
    back = turned_steps(steps)
    seen_back = {}
    for number, one in enumerate(order[::-1]):
        if one not in seen_back:
            for other in walk(one, back, seen_back):
                parts[other] = number
    return parts


def loose(chart, pairs, some):
    """Those of some pairs of the chart that stand in some whole tellings and not in others; pairs is a whole one."""
    asks_by_job = {job: ask for ask, job in pairs}
    steps = steps_of(chart, pairs)
    parts = parts_of(steps)

    def is_loose(ask, job):
        holder = asks_by_job.get(job)
        if holder == ask:
            return any(parts[other] == parts[ask] for other in steps[ask])
        return parts[holder] == parts[ask]

    return [(ask, job) for ask, job in some if is_loose(ask, job)]
