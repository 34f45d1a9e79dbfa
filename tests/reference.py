"""The words of points 8 to 18 once more, written as plainly as they stand and without any thought of speed.

The tests hold what the package tells against this. Whole tellings are found here by going through all of them.
"""

import itertools
import random

from gapcalls.clash import do_clash


def not_above(one, other):
    return None in (one, other) or one <= other


class Reference:
    def __init__(self, town, rows):
        self.houses, self.gates = town
        self.rows = rows
        self.known_asks = sorted({row[1:3] for row in rows if row[0] == "ask"})
        self.known_jobs = sorted({row[1:3] for row in rows if row[0] == "job"})
        self.open_houses = [house for house in self.houses if not self.of("all", house)]
        self.asks = [(house, k) for house in self.houses for k in range(15) if self.was_ask(house, k)]
        self.jobs = [(house, k) for house in self.houses for k in range(15) if self.was_job(house, k)]
        self.lost_asks = [ask for ask in self.asks if ask not in self.known_asks]
        self.lost_jobs = [job for job in self.jobs if job not in self.known_jobs]

    def of(self, word, house):
        return [row for row in self.rows if row[0] == word and row[1] == house]

    def row(self, word, one):
        return next(row for row in self.rows if row[0] == word and row[1:3] == one)

    def was_ask(self, house, number):
        for _, _, asks, _ in self.of("all", house):
            return number < asks
        return any(number <= row[2] for row in self.of("ask", house))

    def was_job(self, house, number):
        for _, _, _, jobs in self.of("all", house):
            return number < jobs
        return (any(number <= row[2] for row in self.of("job", house))
                or any(number <= row[3] for row in self.of("ask", house)))

    def ask_span(self, ask):
        house, number = ask
        low = max((row[5] for row in self.of("ask", house) if row[2] < number), default=None)
        high = min((row[5] for row in self.of("ask", house) if row[2] > number), default=None)
        return (low, high)

    def job_span(self, job):
        house, number = job
        low = max((row[3] for row in self.of("job", house) if row[2] < number), default=None)
        high = min([row[3] for row in self.of("job", house) if row[2] > number]
                   + [row[5] - 1 for row in self.of("ask", house) if row[3] >= number], default=None)
        last = max((row[6] for row in self.of("ask", house) if row[3] == number), default=None)
        return (low, high, last)

    def more_from(self, house):
        return (max((row[5] for row in self.of("ask", house)), default=None),
                max((row[3] for row in self.of("job", house)), default=None))

    def may_lead(self, ask, job):
        if ask in self.known_asks:
            _, _, _, _, asked, out, back = self.row("ask", ask)
            if asked != job[0]:
                return False
            if job in self.known_jobs:
                _, _, _, begin, end = self.row("job", job)
                return out <= begin and end <= back
            low, high, last = self.job_span(job)
            first = out if low is None else max(low, out)
            final = back if high is None else min(high, back)
            return first <= final and (last is None or last < back)
        low, _ = self.ask_span(ask)
        if job in self.known_jobs:
            return not_above(low, self.row("job", job)[3])
        return not_above(low, self.job_span(job)[1])

    def more_jobs(self, ask):
        if ask not in self.known_asks:
            return bool(self.open_houses)
        _, _, _, _, asked, _, back = self.row("ask", ask)
        return asked in self.open_houses and not_above(self.more_from(asked)[1], back)

    def more_asks(self, job):
        latest = self.row("job", job)[3] if job in self.known_jobs else self.job_span(job)[1]
        return any(not_above(self.more_from(house)[0], latest) for house in self.open_houses)

    def needs_job(self, ask):
        return not self.more_jobs(ask)

    def needs_ask(self, job):
        return job[0] not in self.gates and not self.more_asks(job)

    def is_whole(self, pairs):
        asks, jobs = [ask for ask, _ in pairs], [job for _, job in pairs]
        return (pairs == sorted(pairs)
                and len(set(asks)) == len(asks) and len(set(jobs)) == len(jobs)
                and all(ask in self.asks and job in self.jobs and self.may_lead(ask, job) for ask, job in pairs)
                and all(ask in asks for ask in self.asks if self.needs_job(ask))
                and all(job in jobs for job in self.jobs if self.needs_ask(job)))

    def is_short(self, side, some, barred=None, put=None):
        """Whether some are short; were a pair barred; or, were one put, of the others."""
        asks = [ask for ask in self.asks if put is None or ask != put[0]]
        jobs = [job for job in self.jobs if put is None or job != put[1]]
        if some != sorted(set(some)):
            return False

        def may(ask, job):
            return (ask, job) != barred and self.may_lead(ask, job)

        if side == "asks":
            if not all(ask in asks and self.needs_job(ask) for ask in some):
                return False
            return len([job for job in jobs if any(may(ask, job) for ask in some)]) < len(some)
        if not all(job in jobs and self.needs_ask(job) for job in some):
            return False
        return len([ask for ask in asks if any(may(ask, job) for job in some)]) < len(some)

    def is_standing(self, ask, job, told):
        word, one, other = told
        pair = (ask, job)
        if word == "may":
            return (isinstance(one, list) and isinstance(other, list) and self.is_whole(one) and self.is_whole(other)
                    and pair in one and pair not in other)
        if word == "never" and (one, other) == (None, None):
            return not self.may_lead(ask, job)
        if word not in ("must", "never") or one not in ("asks", "jobs") or not isinstance(other, list):
            return False
        if word == "must":
            return self.is_short(one, other, barred=pair)
        return self.is_short(one, other, put=pair)

    def all_whole(self, least=0):
        """Every whole telling, each once, by going through all pairings; for small books alone."""
        if least == len(self.asks):
            yield []
            return
        ask = self.asks[least]
        for rest in self.all_whole(least + 1):
            taken = [job for _, job in rest]
            if not self.needs_job(ask):
                yield rest
            for job in self.jobs:
                if job not in taken and self.may_lead(ask, job):
                    yield [(ask, job)] + rest

    def whole_tellings(self):
        return [pairs for pairs in self.all_whole() if self.is_whole(pairs)]

    def tellings(self):
        """All tellings, sorted; for small books alone."""
        told = {tuple(pair for pair in pairs if self.is_known(pair)) for pairs in self.whole_tellings()}
        return [list(pairs) for pairs in sorted(told)]

    def is_known(self, pair):
        return pair[0] in self.known_asks and pair[1] in self.known_jobs

    def known_chances(self):
        return [(ask, job) for ask in self.known_asks for job in self.known_jobs]

    def all_short(self):
        """Every list that is short, with its side; for small books alone."""
        return [(side, list(some)) for side, there in (("asks", self.asks), ("jobs", self.jobs))
                for count in range(len(there) + 1) for some in itertools.combinations(there, count)
                if self.is_short(side, list(some))]


def answer(telling, job):
    return next((ask for ask, other in telling if other == job), None)


def answers(tellings, job):
    """The answers that some of the tellings give, the asks rising, None behind them."""
    told = {answer(telling, job) for telling in tellings}
    return sorted(told - {None}) + ([None] if None in told else [])


def giving(tellings, job, wanted):
    return [telling for telling in tellings if answer(telling, job) == wanted]


def is_plan_for(tellings, known_jobs, plan):
    if plan[0] == "sure" and len(plan) == 2:
        return tellings == [plan[1]]
    if plan[0] != "who" or len(plan) != 3:
        return False
    _, job, rows = plan
    return (job in known_jobs and [one for one, _ in rows] == answers(tellings, job)
            and all(is_plan_for(giving(tellings, job, one), known_jobs, inner) for one, inner in rows))


def needs(plan):
    return 0 if plan[0] == "sure" else 1 + max(needs(inner) for _, inner in plan[2])


def least_need(tellings, known_jobs):
    """How many questions the best plan needs, by going through all plans; for few tellings alone."""
    if len(tellings) == 1:
        return 0
    return 1 + min(max(least_need(giving(tellings, job, one), known_jobs) for one in answers(tellings, job))
                   for job in known_jobs if len(answers(tellings, job)) > 1)


def are_bars_of(tellings, known_jobs, number, bars):
    def stands(some, least):
        return any(other == some and many >= least for other, many in bars)

    def is_shown(some, need):
        if need > 0 and len(some) < 2:
            return False
        those = [tellings[at] for at in some]
        return need <= 1 or all(
            any(stands(tuple(at for at in some if answer(tellings[at], job) == one), need - 1)
                for one in answers(those, job)) for job in known_jobs)

    return (all(some and list(some) == sorted(set(some)) and 0 <= some[0] and some[-1] < len(tellings)
                for some, _ in bars)
            and stands(tuple(range(len(tellings))), number) and all(is_shown(some, need) for some, need in bars))


def some_row(chance, houses, most_number, most_time):
    house = chance.choice(houses)
    word = chance.choice(("ask", "ask", "ask", "job", "job", "job", "all"))
    if word == "all":
        return (word, house, chance.randint(0, most_number + 1), chance.randint(0, most_number + 1))
    first, last = sorted((chance.randint(0, most_time), chance.randint(0, most_time)))
    number = chance.randint(0, most_number)
    if word == "job":
        return (word, house, number, first, last)
    return (word, house, number, chance.randint(0, most_number), chance.choice(houses), first, last)


def some_book(chance, tries, most_houses=3, most_number=2, most_time=9):
    """A town and a book of it that hang on the given chance alone: as many of the tried rows as don't clash."""
    houses = tuple("abcdef"[:chance.randint(1, most_houses)])
    gates = tuple(house for house in houses if chance.random() < 0.3)
    rows = []
    for _ in range(tries):
        row = some_row(chance, houses, most_number, most_time)
        if not any(do_clash(row, other) for other in rows):
            rows.append(row)
    return (houses, gates), rows


def some_history(chance, houses, gates, starts, deep, most_time=100):
    """What really was: jobs (house, begin, end, of which ask they came) and asks (in which job, out, back)."""
    jobs, asks = [], []

    def do_job(house, begin, end, came_of, left):
        number = len(jobs)
        jobs.append((house, begin, end, came_of))
        for _ in range(chance.randint(0, 2) if left else 0):
            if end - begin >= 2:
                out, back = sorted(chance.randint(begin + 1, end - 1) for _ in range(2))
                asks.append((number, out, back))
                inner = sorted(chance.randint(out, back) for _ in range(2))
                do_job(chance.choice(houses), inner[0], inner[1], len(asks) - 1, left - 1)

    for _ in range(starts):
        begin = chance.randint(0, most_time)
        do_job(chance.choice(gates), begin, begin + chance.randint(0, most_time), None, deep)
    return jobs, asks


def numbered(houses, things, house_of, time_of):
    """From the place of each thing to (house, number), each house's things numbered by their times."""
    names = {}
    for house in houses:
        own = [at for at, thing in enumerate(things) if house_of(thing) == house]
        for number, at in enumerate(sorted(own, key=lambda at: time_of(things[at]))):
            names[at] = (house, number)
    return names


def rows_of_history(houses, jobs, asks):
    """All rows that the houses could write of it, and the pairs of what really led to what."""
    job_names = numbered(houses, jobs, lambda job: job[0], lambda job: job[1])
    ask_names = numbered(houses, asks, lambda ask: jobs[ask[0]][0], lambda ask: ask[1])
    led_to = {job[3]: at for at, job in enumerate(jobs) if job[3] is not None}
    rows = [("job",) + job_names[at] + job[1:3] for at, job in enumerate(jobs)]
    for at, (made_in, out, back) in enumerate(asks):
        rows.append(("ask",) + ask_names[at] + (job_names[made_in][1], jobs[led_to[at]][0], out, back))
    for house in houses:
        rows.append(("all", house, sum(name[0] == house for name in ask_names.values()),
                     sum(name[0] == house for name in job_names.values())))
    return rows, sorted((ask_names[at], job_names[led_to[at]]) for at in range(len(asks)))


def fits(houses, jobs, asks):
    most_jobs = max(sum(job[0] == house for job in jobs) for house in houses)
    most_asks = max(sum(jobs[ask[0]][0] == house for ask in asks) for house in houses)
    return most_jobs <= 15 and most_asks <= 15


def some_true_book(chance):
    """A town, rows of a history of it of which some are lost, and the pairs that really were, of what there was."""
    houses = tuple("abcdef"[:chance.randint(1, 6)])
    gates = tuple(sorted(chance.sample(houses, chance.randint(1, len(houses)))))
    while True:
        jobs, asks = some_history(chance, houses, gates, chance.randint(1, 6), chance.randint(0, 4))
        if fits(houses, jobs, asks):
            break
    rows, pairs = rows_of_history(houses, jobs, asks)
    kept = chance.choice((0.2, 0.5, 0.8, 1))
    rows = [row for row in rows if chance.random() < kept]
    chance.shuffle(rows)
    reference = Reference((houses, gates), rows)
    there = [(ask, job) for ask, job in pairs if ask in reference.asks and job in reference.jobs]
    return (houses, gates), rows, there


def some_tight_book(chance):
    """A town and a small book of it: rows of a history of little time, so that much may have led to much."""
    houses = tuple("abc"[:chance.randint(1, 3)])
    gates = tuple(sorted(chance.sample(houses, chance.randint(1, len(houses)))))
    while True:
        jobs, asks = some_history(chance, houses, gates, chance.randint(1, 3), chance.randint(1, 3), most_time=12)
        if len(jobs) > 6 or len(asks) < 2:
            continue
        rows, _ = rows_of_history(houses, jobs, asks)
        kept = chance.choice((0.7, 0.9, 1))
        rows = [row for row in rows if chance.random() < kept]
        # Where all houses are open few asks must have led to a job, but jobs ahead of late asks must have come of one.
        if chance.random() < 0.4:
            rows = [row for row in rows if row[0] != "all"]
        chance.shuffle(rows)
        return (houses, gates if chance.random() < 0.6 else gates[1:]), rows


def small_books(seed, count, most_tellings=None):
    """Towns, small books of them, and their references; where it is asked, with a telling and at most so many."""
    chance = random.Random(seed)
    while count:
        if chance.random() < 0.8:
            town, rows = some_tight_book(chance)
        else:
            town, rows = some_book(chance, chance.randint(0, 12))
        reference = Reference(town, rows)
        if len(reference.asks) > 4 or len(reference.jobs) > 6:
            continue
        if most_tellings is not None and not 1 <= len(reference.tellings()) <= most_tellings:
            continue
        count -= 1
        yield town, rows, reference
