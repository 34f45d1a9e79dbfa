"""What must and may be, kept as rows come (point 21 of the document)."""

from gapcalls.clash import do_clash
from gapcalls.errors import Clash, NoRow, Short
from gapcalls.gaps import Gaps
from gapcalls.rows import is_row
from gapcalls.standing import Outlook, likely_pairs, sure_pairs


class Keeper:
    """Keeps the rows of a town as they come, each once.

    What they come to is found out when it is asked for, and kept until the next row comes.
    """

    def __init__(self, town):
        self.town = town
        self.kept = []
        self.ahead = 0
        self.views = {}

    def come(self, row):
        """A row comes, and stands behind the others; NoRow, then Clash is raised where it may not."""
        if not is_row(self.town, row):
            raise NoRow(0)
        for first, other in enumerate(self.kept):
            if do_clash(other, row):
                raise Clash(first, len(self.kept))
        self.ahead = len(self.kept)
        if row not in self.kept:
            self.views = {count: self.views[count] for count in self.views if count == self.ahead}
            self.kept.append(row)

    def rows(self):
        """The rows, as they came, each once."""
        return list(self.kept)

    def is_whole(self):
        """Whether there is a whole telling."""
        return view_of(self, len(self.kept)).has_whole

    def must(self):
        """The pairs that must be, rising; none where there is no whole telling."""
        return list(view_of(self, len(self.kept)).sure)

    def may(self):
        """The pairs that must or may be, rising; none where there is no whole telling."""
        return list(view_of(self, len(self.kept)).likely)

    def brought(self):
        """What the last row brought: the pairs that must be now, and those that may be no more, both rising."""
        before = view_of(self, self.ahead)
        now = view_of(self, len(self.kept))
        return (pairs_without(now.sure, before.sure), pairs_without(before.likely, now.likely))


class View:
    """What rows come to: whether there is a whole telling, and the pairs that must be, and must or may be."""

    def __init__(self, has_whole, sure, likely):
        self.has_whole = has_whole
        self.sure = sure
        self.likely = likely


def look_at(town, rows):
    try:
        outlook = Outlook(Gaps(town, rows))
    except Short:
        return View(False, [], [])
    return View(True, sure_pairs(outlook), likely_pairs(outlook))


def view_of(keeper, count):
    """What the first so many of the keeper's rows come to."""
    if count not in keeper.views:
        keeper.views[count] = look_at(keeper.town, keeper.kept[:count])
    return keeper.views[count]


def pairs_without(pairs, others):
    gone = {pair: True for pair in others}
    return [pair for pair in pairs if pair not in gone]
