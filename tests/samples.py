"""What several test files use: towns, rows, and things that are neither."""

MOST_TIME = 10 ** 12

TOWN = (("a", "b", "c"), ("b",))

ASK = ("ask", "a", 3, 2, "b", 10, 20)
JOB = ("job", "a", 3, 10, 20)
ALL = ("all", "a", 5, 4)


def ask(number, made_in, out, back, house="a", asked="b"):
    return ("ask", house, number, made_in, asked, out, back)


def job(number, begin, end, house="a"):
    return ("job", house, number, begin, end)


def all_row(asks, jobs, house="a"):
    return ("all", house, asks, jobs)


def nested(inmost, depth, make):
    thing = inmost
    for _ in range(depth):
        thing = make(thing)
    return thing


# Things of every kind that "of anything" allows; none is a town, a row or a part of a row.
ODD_THINGS = (
    None, True, False, 10 ** 13, -10 ** 13, 10 ** 5000, -10 ** 5000,
    "", " ", "~", "\t", "\n", "A", "a b", "a\n", "0", "3", "asking", "abcdefghi",
    (), [], ((),), [[]], ([],), [()], (None,), [None], (True, False), (1, 2), [1, 2],
    ("a",), ["a"], ("a", "b"), ["a", "b"], (("a",),), [["a"]], ((), ()), ([], []),
    ("ask",), ("job",), ("all",), ["job", "a", 3, 10, 20],
    nested("a", 6, lambda thing: (thing,)), nested("a", 6, lambda thing: [thing]),
    nested(0, 3, lambda thing: ([thing], thing)), nested(None, 6, lambda thing: (thing, [])),
)


def with_part(row, at, part):
    return row[:at] + (part,) + row[at + 1:]


def with_some_parts(row):
    """The row with one part left out, once for each, and with one put in at each place."""
    shorter = [row[:at] + row[at + 1:] for at in range(len(row))]
    longer = [row[:at] + (row[min(at, len(row) - 1)],) + row[at:] for at in range(len(row) + 1)]
    return shorter + longer


# Seconds, many times what is needed; a search through all tellings of the long books of the tests would take years.
LITTLE_TIME = 20

PAIR = (("a", "b"), ("a",))
SIX = tuple("abcdef")


def pairs_of(*numbers):
    """Pairs of asks of a and jobs of b."""
    return [(("a", one), ("b", other)) for one, other in numbers]


def asks(*numbers):
    return [("a", number) for number in numbers]


def jobs(*numbers):
    return [("b", number) for number in numbers]


def asked(*spans):
    """The house a, which is a gate in PAIR, did one job and asked b from out to back, and no more."""
    rows = [ask(number, 0, out, back) for number, (out, back) in enumerate(spans)]
    return rows + [job(0, -100, 1000), all_row(len(spans), 1)]


def done(*spans):
    """The house b did these jobs, asked nothing, and no more."""
    rows = [job(number, begin, end, house="b") for number, (begin, end) in enumerate(spans)]
    return rows + [all_row(0, len(spans), house="b")]


def ring_of_six(out, back, begin, end):
    """Six houses, each of fifteen jobs and fifteen asks of the next house, all told, at times by their numbers."""
    rows = []
    for at, house in enumerate(SIX):
        following = SIX[(at + 1) % 6]
        rows += [job(number, begin(number), end(number), house=house) for number in range(15)]
        rows += [ask(number, 0, out(number), back(number), house=house, asked=following) for number in range(15)]
        rows.append(all_row(15, 15, house=house))
    return rows


# Of the asks none is tied and of the jobs all are: b is open, but asked only from 30 on.
# b.0 came of a.0 alone; so b.1, which may have come of both by themselves, came of a.1.
FEW_ASKS_EARLY = [
    ask(0, 0, 10, 100), ask(1, 0, 19, 100), job(0, -100, 1000), all_row(2, 1),
    job(0, 12, 18, house="b"), job(1, 20, 90, house="b"), ask(0, 1, 30, 40, house="b", asked="b")]


CHOICES = (SIX, SIX)


def choices(*counts):
    """A book of CHOICES: ask k of a led to one of so many jobs of the k-th house behind a, each of them a gate's.

    So there are as many tellings as the product of the counts.
    """
    rows = [job(0, 0, 90), all_row(len(counts), 1)]
    for number, (count, house) in enumerate(zip(counts, SIX[1:])):
        rows.append(ask(number, 0, 10, 20, asked=house))
        rows += [job(other, 10, 20, house=house) for other in range(count)]
        rows.append(all_row(0, count, house=house))
    return rows + [all_row(0, 0, house=house) for house in SIX[1 + len(counts):]]
