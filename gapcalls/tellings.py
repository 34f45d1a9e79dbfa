"""All tellings: what the whole tellings have of known asks and known jobs (point 14 of the document)."""

from gapcalls.errors import TooMany
from gapcalls.exchange import loose
from gapcalls.gaps import gaps_of
from gapcalls.pairing import are_pairs_of, barred, pair_up, pair_up_from, put
from gapcalls.standing import Outlook, known_chances, known_pairs, whole_chart_of

MOST_TELLINGS = 200


class Branch:
    """The whole tellings that have some pairs put and others barred; never none.

    The chart is what is left for the others, pairs a whole telling of it, chances the known pairs not yet decided.
    """

    def __init__(self, chart, pairs, held, chances):
        self.chart = chart
        self.pairs = pairs
        self.held = held
        self.chances = chances


def branch_with(branch, ask, job, chances):
    chart = put(branch.chart, ask, job)
    pairs = [pair for pair in branch.pairs if pair[0] != ask and pair[1] != job]
    others = [pair for pair in chances if pair[0] != ask and pair[1] != job]
    return Branch(chart, pair_up_from(chart, pairs)[1], branch.held + [(ask, job)], others)


def branches_of(branch, chances):
    """The branch by what one ask led to: each of the jobs that it may have, or none of them."""
    ask = chances[0][0]
    own = [pair for pair in chances if pair[0] == ask]
    branches = [branch_with(branch, ask, job, chances) for one, job in own]
    chart = barred(branch.chart, own)
    told = pair_up_from(chart, [pair for pair in branch.pairs if pair not in own])
    if told[0] == "whole":
        branches.append(Branch(chart, told[1], branch.held, [pair for pair in chances if pair[0] != ask]))
    return branches


def all_of(gaps, limit):
    """All tellings, sorted; TooMany is raised where there are more than the limit."""
    outlook = Outlook(gaps)
    branches = [Branch(outlook.chart, outlook.pairs, [], outlook.undecided)]
    told = []
    while branches:
        branch = branches.pop()
        chances = loose(branch.chart, branch.pairs, branch.chances) if branch.chances else []
        if chances:
            branches.extend(branches_of(branch, chances))
        else:
            told.append(sorted(known_pairs(gaps, branch.held + branch.pairs)))
        # Each branch that is left has a telling of its own, so none of them need be gone through.
        if len(told) + len(branches) > limit:
            raise TooMany("there are more tellings than the limit")
    return sorted(told)


def how_many(town, rows, limit=MOST_TELLINGS):
    """How many tellings there are."""
    return len(all_of(gaps_of(town, rows), limit))


def tellings(town, rows, limit=MOST_TELLINGS):
    """All tellings, sorted."""
    return all_of(gaps_of(town, rows), limit)


def is_telling(town, rows, pairs):
    """Whether a list of pairs of asks and jobs is a telling."""
    gaps = gaps_of(town, rows)
    chart = whole_chart_of(gaps)
    if not are_pairs_of(chart, pairs) or known_pairs(gaps, pairs) != pairs:
        return False
    others = barred(chart, known_chances(gaps, chart))
    for ask, job in pairs:
        others = put(others, ask, job)
    return pair_up(others)[0] == "whole"
