"""What there was, known and lost, and when it may have been (points 8 and 9 of the document)."""

from gapcalls.clash import need_book


class Gaps:
    """What a book tells of each ask and each job by itself, read off its rows once; the rows must be a book's."""

    def __init__(self, town, rows):
        self.town = town
        self.ask_rows = rows_by_number(rows, "ask")
        self.job_rows = rows_by_number(rows, "job")
        self.all_rows = {row[1]: row for row in rows if row[0] == "all"}
        self.asks = numbers_below(town, {house: count_asks(self, house) for house in town[0]})
        self.jobs = numbers_below(town, {house: count_jobs(self, house) for house in town[0]})
        self.ask_spans = {ask: span_of_ask(self, ask) for ask in self.asks if ask not in self.ask_rows}
        self.job_spans = {job: span_of_job(self, job) for job in self.jobs if job not in self.job_rows}
        self.more_times = {house: more_of(self, house) for house in town[0] if house not in self.all_rows}


def gaps_of(town, rows):
    """The gaps of a book; of other lists NoRow, then Clash is raised."""
    need_book(town, rows)
    return Gaps(town, rows)


def rows_by_number(rows, word):
    return {(row[1], row[2]): row for row in rows if row[0] == word}


def numbers_below(town, counts):
    """All (house, number) with the number below the house's count, rising as the town's houses do."""
    return [(house, number) for house in town[0] for number in range(counts[house])]


def asks_of_house(gaps, house):
    return [row for row in gaps.ask_rows.values() if row[1] == house]


def jobs_of_house(gaps, house):
    return [row for row in gaps.job_rows.values() if row[1] == house]


def count_asks(gaps, house):
    if house in gaps.all_rows:
        return gaps.all_rows[house][2]
    return 1 + max([row[2] for row in asks_of_house(gaps, house)], default=-1)


def count_jobs(gaps, house):
    if house in gaps.all_rows:
        return gaps.all_rows[house][3]
    done = [row[2] for row in jobs_of_house(gaps, house)]
    # A job in which an ask was made must have been, though its own row may be missing.
    asked_in = [row[3] for row in asks_of_house(gaps, house)]
    return 1 + max(done + asked_in, default=-1)


def earliest(times):
    return min(times, default=None)


def latest(times):
    return max(times, default=None)


def span_of_ask(gaps, ask):
    house, number = ask
    asks = asks_of_house(gaps, house)
    low = latest([row[5] for row in asks if row[2] < number])
    high = earliest([row[5] for row in asks if row[2] > number])
    return (low, high)


def span_of_job(gaps, job):
    house, number = job
    asks = asks_of_house(gaps, house)
    jobs = jobs_of_house(gaps, house)
    low = latest([row[3] for row in jobs if row[2] < number])
    begins = [row[3] for row in jobs if row[2] > number]
    # A job begins ahead of each ask that is made in it or in a later one.
    ahead_of_asks = [row[5] - 1 for row in asks if row[3] >= number]
    last = latest([row[6] for row in asks if row[3] == number])
    return (low, earliest(begins + ahead_of_asks), last)


def more_of(gaps, house):
    outs = [row[5] for row in asks_of_house(gaps, house)]
    begins = [row[3] for row in jobs_of_house(gaps, house)]
    return (latest(outs), latest(begins))


def known_asks(town, rows):
    """The asks that rows tell of, rising."""
    return sorted(gaps_of(town, rows).ask_rows)


def known_jobs(town, rows):
    """The jobs that rows tell of, rising."""
    return sorted(gaps_of(town, rows).job_rows)


def lost_asks(town, rows):
    """The asks that there were and no row tells of, rising."""
    return sorted(gaps_of(town, rows).ask_spans)


def lost_jobs(town, rows):
    """The jobs that there were and no row tells of, rising."""
    return sorted(gaps_of(town, rows).job_spans)


def open_houses(town, rows):
    """The houses without an all row, rising."""
    return sorted(gaps_of(town, rows).more_times)


def ask_span(town, rows, ask):
    """(low, high) of a lost ask: from when to when it went out, None where nothing tells."""
    return span_of_ask(gaps_of(town, rows), ask)


def job_span(town, rows, job):
    """(low, high, last) of a lost job: from when to when it began, and behind what it ended."""
    return span_of_job(gaps_of(town, rows), job)


def more_from(town, rows, house):
    """From when on more asks of an open house went out, and more jobs of it began."""
    return more_of(gaps_of(town, rows), house)
