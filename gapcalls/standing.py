"""Which known ask must have led to which known job, may have, or can't (point 13 of the document)."""

from gapcalls.errors import NoAsk, NoJob
from gapcalls.exchange import loose
from gapcalls.gaps import gaps_of
from gapcalls.pairing import are_pairs_whole, are_short, barred, chart_of, need_whole, pair_up, put


class Outlook:
    """Of gaps with a whole telling: the known pairs of one, and those that stand in some and not in others."""

    def __init__(self, gaps):
        self.gaps = gaps
        self.chart = chart_of(gaps)
        self.pairs = need_whole(self.chart)
        self.undecided = loose(self.chart, self.pairs, known_chances(gaps, self.chart))


def known_chances(gaps, chart):
    """All pairs of the chart of known asks and known jobs."""
    return [(ask, job) for ask in gaps.ask_rows for job in chart.jobs_of[ask] if job in gaps.job_rows]


def known_pairs(gaps, pairs):
    return [(ask, job) for ask, job in pairs if ask in gaps.ask_rows and job in gaps.job_rows]


def sure_pairs(outlook):
    """The known pairs that all whole tellings have, rising."""
    open_yet = {pair: True for pair in outlook.undecided}
    return [pair for pair in known_pairs(outlook.gaps, outlook.pairs) if pair not in open_yet]


def likely_pairs(outlook):
    """The known pairs that some whole telling has, rising."""
    return sorted(sure_pairs(outlook) + outlook.undecided)


def need_known(gaps, ask, job):
    # No text of the ask or the job is made: its number may have more figures than Python writes.
    if ask not in gaps.ask_rows:
        raise NoAsk("this ask is not known")
    need_known_job(gaps, job)


def need_known_job(gaps, job):
    if job not in gaps.job_rows:
        raise NoJob("this job is not known")


def whole_chart_of(gaps):
    """The chart of gaps with a whole telling; where there is none, Short is raised."""
    chart = chart_of(gaps)
    need_whole(chart)
    return chart


def standing(town, rows, ask, job):
    """("must", side, some), ("may", pairs, pairs) or ("never", side, some) of a known ask and a known job."""
    gaps = gaps_of(town, rows)
    need_known(gaps, ask, job)
    chart = whole_chart_of(gaps)
    if job not in chart.jobs_of[ask]:
        return ("never", None, None)
    others = pair_up(put(chart, ask, job))
    if others[0] == "short":
        return ("never", others[1], others[2])
    lacking = pair_up(barred(chart, [(ask, job)]))
    if lacking[0] == "short":
        return ("must", lacking[1], lacking[2])
    return ("may", sorted(others[1] + [(ask, job)]), lacking[1])


def is_must_shown(chart, ask, job, side, some):
    return isinstance(some, list) and are_short(barred(chart, [(ask, job)]), side, some)


def is_may_shown(chart, ask, job, having, lacking):
    if not isinstance(having, list) or not isinstance(lacking, list):
        return False
    if (ask, job) not in having or (ask, job) in lacking:
        return False
    return are_pairs_whole(chart, having) and are_pairs_whole(chart, lacking)


def is_never_shown(chart, ask, job, side, some):
    if side is None and some is None:
        return job not in chart.jobs_of[ask]
    return isinstance(some, list) and are_short(put(chart, ask, job), side, some)


SHOWN = {"must": is_must_shown, "may": is_may_shown, "never": is_never_shown}


def is_standing(town, rows, ask, job, told):
    """Whether a tuple of three is right of a known ask and a known job."""
    gaps = gaps_of(town, rows)
    need_known(gaps, ask, job)
    chart = whole_chart_of(gaps)
    word, one, other = told
    if word not in SHOWN:
        return False
    is_shown = SHOWN[word]
    return is_shown(chart, ask, job, one, other)


def must(town, rows):
    """All pairs of known asks and known jobs that must be, rising."""
    return sure_pairs(Outlook(gaps_of(town, rows)))


def may(town, rows):
    """All pairs of known asks and known jobs that must or may be, rising."""
    return likely_pairs(Outlook(gaps_of(town, rows)))


def who_led(town, rows, job):
    """The asks that must or may have led to a known job, rising; None behind them where perhaps no known one did."""
    gaps = gaps_of(town, rows)
    need_known_job(gaps, job)
    outlook = Outlook(gaps)
    pairs = [pair for pair in likely_pairs(outlook) if pair[1] == job]
    asks = [ask for ask, other in pairs]
    return asks + [None] if pair_up(barred(outlook.chart, pairs))[0] == "whole" else asks
