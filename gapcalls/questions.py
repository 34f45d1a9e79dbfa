"""The fewest questions by which it is sure what was, and what shows it (points 15 and 16 of the document)."""

from gapcalls.gaps import gaps_of
from gapcalls.rows import is_rising
from gapcalls.tellings import all_of

MOST_TO_TELL_APART = 10


class Asking:
    """The answers that each telling gives for each known job, and what was found out of some of them so far.

    Some tellings are told by the rising tuple of their numbers.
    """

    def __init__(self, gaps):
        self.told = all_of(gaps, MOST_TO_TELL_APART)
        asks_by_job = [{job: ask for ask, job in telling} for telling in self.told]
        self.answers = {job: [asks.get(job) for asks in asks_by_job] for job in sorted(gaps.job_rows)}
        self.everything = tuple(range(len(self.told)))
        self.useful = jobs_that_differ(self)
        self.best = {}


def answer_order(answer):
    """The asks rise, None stands behind them."""
    return (answer is None, answer if answer is not None else ())


def groups_of(asking, some, job):
    """A list of (answer, those of some that give it) of each answer that some of them give."""
    answers = asking.answers[job]
    groups = {}
    for number in some:
        groups.setdefault(answers[number], []).append(number)
    return [(answer, tuple(groups[answer])) for answer in sorted(groups, key=answer_order)]


def jobs_that_differ(asking):
    """Known jobs that tell some tellings apart, of those that tell the same ones apart the first alone."""
    first = {}
    for job in asking.answers:
        groups = tuple(sorted([group for answer, group in groups_of(asking, asking.everything, job)]))
        if len(groups) > 1 and groups not in first:
            first[groups] = job
    return list(first.values())


def hardest(asking, some, job):
    """The need of the answer behind which the most questions are needed, and those of some that give it."""
    return max([(need_and_job(asking, group)[0], group) for answer, group in groups_of(asking, some, job)])


def need_and_job(asking, some):
    """How many questions some tellings need, and the job to ask for first; None where nothing is to ask."""
    if len(some) == 1:
        return (0, None)
    if some not in asking.best:
        # No two tellings give the same answers for all known jobs, so one of these jobs tells some of them apart.
        jobs = [job for job in asking.useful if len(groups_of(asking, some, job)) > 1]
        asking.best[some] = min([(1 + hardest(asking, some, job)[0], job) for job in jobs])
    return asking.best[some]


def plan_for(asking, some):
    number, job = need_and_job(asking, some)
    if job is None:
        return ("sure", list(asking.told[some[0]]))
    return ("who", job, [(answer, plan_for(asking, group)) for answer, group in groups_of(asking, some, job)])


def bars_for(asking):
    """For all tellings, and wherever a question leaves most to ask, how many questions are needed there."""
    bars = {}
    left = [asking.everything]
    while left:
        some = left.pop()
        if some in bars:
            continue
        bars[some] = need_and_job(asking, some)[0]
        if bars[some] > 1:
            left.extend([hardest(asking, some, job)[1] for job in asking.useful])
    return sorted(bars.items())


def questions(town, rows):
    """(number, plan, bars): how many questions are needed, a plan of so many, what shows that none needs fewer."""
    asking = Asking(gaps_of(town, rows))
    number = need_and_job(asking, asking.everything)[0]
    return (number, plan_for(asking, asking.everything), bars_for(asking))


def is_sure(asking, some, plan):
    return plan[0] == "sure" and len(some) == 1 and plan[1] == asking.told[some[0]]


def groups_asked(asking, some, plan):
    """The plans behind a question, each with those that it is for; None where it is not asked as a plan must."""
    word, job, rows = plan
    if word != "who" or job not in asking.answers:
        return None
    groups = groups_of(asking, some, job)
    if [answer for answer, inner in rows] != [answer for answer, group in groups]:
        return None
    return [(group, inner) for (answer, group), (answer_again, inner) in zip(groups, rows)]


def is_plan(town, rows, plan):
    """Whether a plan, made of any words, asks, jobs and lists of pairs, is one for all tellings."""
    asking = Asking(gaps_of(town, rows))
    left = [(asking.everything, plan)]
    while left:
        some, inner = left.pop()
        if len(inner) == 2:
            if not is_sure(asking, some, inner):
                return False
        else:
            groups = groups_asked(asking, some, inner)
            if groups is None:
                return False
            left.extend(groups)
    return True


def are_some(asking, some):
    """Whether a tuple of whole numbers is one of numbers of tellings, rising, not none."""
    return len(some) > 0 and all(number in asking.everything for number in some) and is_rising(some)


def is_need_shown(asking, some, need, most):
    """Whether some need so many questions, if those that most tells of do."""
    if need > 0 and len(some) < 2:
        return False
    if need > 1:
        for job in asking.answers:
            groups = groups_of(asking, some, job)
            if not any(group in most and most[group] >= need - 1 for answer, group in groups):
                return False
    return True


def are_bars(town, rows, number, bars):
    """Whether a list of tuples (some, number) shows that no plan for all tellings needs fewer than the number."""
    asking = Asking(gaps_of(town, rows))
    if not all(are_some(asking, some) for some, need in bars):
        return False
    most = {}
    for some, need in bars:
        most[some] = max(need, most.get(some, need))
    if asking.everything not in most or most[asking.everything] < number:
        return False
    return all(is_need_shown(asking, some, need, most) for some, need in bars)
