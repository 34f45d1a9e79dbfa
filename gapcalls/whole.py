"""Whole tellings, and what is short where there is none (points 11 and 12 of the document)."""

from gapcalls.gaps import gaps_of
from gapcalls.pairing import are_pairs_whole, are_short, chart_of, pair_up


def whole(town, rows):
    """("whole", pairs), a whole telling, or ("short", side, some) where there is none."""
    return pair_up(chart_of(gaps_of(town, rows)))


def is_whole(town, rows, pairs):
    """Whether a list of pairs of asks and jobs is a whole telling."""
    return are_pairs_whole(chart_of(gaps_of(town, rows)), pairs)


def is_short(town, rows, side, some):
    """Whether a list of asks, or of jobs, is short; side is "asks" or "jobs"."""
    return are_short(chart_of(gaps_of(town, rows)), side, some)
